import PyProof.Rows.All
import Wide.All
import OpenK.AllK
import Wide.FinOn
import HandS.ForMost
import HandS.ForExc
import HandS.Defaults
import HandS.Ends
import HandS.Head0
import HandS.Head1
import HandS.Head2
import HandS.HeadEnd
import HandS.HeadHook1
import HandS.HeadHook2
import HandS.HeadHook3
import HandS.HeadHook4
import HandS.Lambda
import HandS.Flow
import HandS.Wide
import HandS.TupAny
import HandS.Conv
import HandS.TupLe
import HandS.IsInst
import HandS.RaiseMore
import HandS.Text
import HandS.More
import HandS.Style
import HandS.ExcInit
import HandS.ExcField
import HandS.TryMany
import HandS.CallLocal
import HandS.CallRecv
import PyProof.StrLaws
import HandS.StrMore
import HandS.Steps
import HandS.EndBits
import PySem.Challenge.RW_pourparler_k13_subtalk_order
set_option Elab.async false
set_option linter.all false
set_option maxRecDepth 100000
section
namespace Rf
open PySem PySem.Spec PyProof.Rows L2

/-! ## defs, where no container's text is under way -/
structure FnG (P : Program) (w : World) (K : PySem.W.Frag) (mg : Str → Option Value) (base : Heap) (CX : CXT) (k : Nat) (f : Addr) (fd : FuncData) (ps : List Str) (sp : Sp) : Prop where
  ln : ∀ vs H Q E, sp vs H Q E → vs.length = ps.length
  go : ∀ (A : Around) (out : List Env) (s : Shared) (H : Hp) (ar : Args) (us : List Value) (vs : List V) (Q : VK) (E : XK),
    A.guards = some [] → Room k A → Env0 P w K mg base A out s H → BindsTo s fd ar (ps.zip us) → Vals vs us → sp vs H Q E →
      codeAny (model P w) A (.call (.ref f) ar) (CR CX out P w H s Q E) s
theorem FnG.imp {P : Program} {w : World} {K : PySem.W.Frag} {mg : Str → Option Value} {base : Heap} {CX : CXT} {k : Nat} {f : Addr} {fd : FuncData} {ps : List Str} {sp sp' : Sp} (F : FnG P w K mg base CX k f fd ps sp)
    (h : ∀ vs H Q E, sp' vs H Q E → sp vs H Q E) : FnG P w K mg base CX k f fd ps sp' where
  ln := fun vs H Q E q => F.ln vs H Q E (h vs H Q E q)
  go := fun A out s H ar us vs Q E g hr e0 hb hv q => F.go A out s H ar us vs Q E g hr e0 hb hv (h vs H Q E q)
/-- a call's result, looked at -/
theorem cr_end {X : Cx} {CX : CXT} {pins : List (Addr × Obj)} {σ : L2.St} {H : Hp} {s s' : Shared} {Q : VK} {E : XK} {r : Result} (I : Inv X pins σ H s)
    (hx : ∀ e, r = .error e → CX X.stack H s E e s' → X.xe e s') (h : CR CX X.stack X.prog X.w H s Q E r s') :
    match r with | .ok (.ret u) => EP X pins σ Q u s' | .ok _ => False | .error e => X.xe e s' := by
  rcases r with e | fl
  · exact hx e rfl h
  · rcases fl with _ | _ | _ | u
    · exact h
    · exact h
    · exact h
    · exact I.after h
theorem run_G {X : Cx} {CX : CXT} {k : Nat} {f : Addr} {fd : FuncData} {ps : List Str} {sp : Sp} {E : L2.St → XK} {pins : List (Addr × Obj)} {σ : L2.St} {H : Hp} {s : Shared} {Q : VK} {us : List Value} {vs : List V}
    (F : FnG X.prog X.w X.K X.mg X.base CX k f fd ps sp) (g : X.A.guards = some []) (hr : Room k X.A) (hb : Binds X.K fd ps []) (hx : PassesAt CX X σ (E σ))
    (I : Inv X pins σ H s) (r : Vals vs us) (h : sp vs H Q (E σ)) : wpAny (model X.prog X.w) X.A (call (.ref f) us) (EP X pins σ Q) X.xe s := by
  have b := hb s us I.kIn (by rw [List.append_nil, ← r.length]; exact F.ln _ _ _ _ h)
  rw [List.append_nil] at b
  apply wpAny_call
  refine codeAny_mono (F.go X.A X.stack s H ⟨us, []⟩ us vs Q (E σ) g hr I.env0 b r h) fun r' s' q => ?_
  have z := cr_end I (fun e _ c => hx pins H s e s' I c) q
  rcases r' with e | fl
  · exact z
  · rcases fl with _ | _ | _ | u
    · exact z
    · exact z
    · exact z
    · exact z
/-- a def's call, by its body -/
theorem fn_go {CX : CXT} {P : Program} {w : World} {K : PySem.W.Frag} {mg : Str → Option Value} {base : Heap} {k : Nat} {f : Addr} {fd : FuncData} {name qual : Str} {params : Arguments} {body : List Stmt} {scope : Scope} {dvs : List V} {kws : List (Str × V)}
    {N ps : List Str} (F : FunD K name qual params body scope dvs kws f fd) (S : FnScope N ps scope)
    {A : Around} {out : List Env} {s : Shared} {H : Hp} {ar : Args} {us : List Value} {vs : List V} {Q : VK} {E : XK} (hr : Room (k + 1) A) (e0 : Env0 P w K mg base A out s H) (hb : BindsTo s fd ar (ps.zip us)) (r : Vals vs us) (hl : vs.length = ps.length)
    (hbody : ∀ cdv : Value, (∃ (oc : Value) (od : Option Addr) (osl : Array (Option Value)), K.lookup f = some ⟨oc, od, .func fd, osl⟩) → fd.code = cdv → PySem.W.codeIn K cdv qual = true → Room k (A.deeper (envOfC qual scope s.heap.objs.size f cdv)) →
      ∃ t, PSs (cxOf CX P w K mg base N qual scope f cdv A out s H E) body t ∧ t { nx := fun _ H' => Q .non H', rt := Q } (L2.start N vs) H) :
    codeAny (model P w) A (.call (.ref f) ar) (CR CX out P w H s Q E) s := by
  obtain ⟨oc, od, dV, kV, doc, pm, an, cdv, ct, osl, rfl, lk, hcd, _, _⟩ := F.ex
  have keep : ∀ b o, base.get? b = some o → s.heap.get? b = some o := fun b o e => (e0.bs b o e).1
  have KX := e0.mod.kin.keeps keep
  have lim := e0.mod.nolimit.keeps keep
  have hk : ∀ y ∈ ps.zip us, scope.names.lookup y.1 = some .local ∨
      (scope.names.lookup y.1 = some .cell ∧ ((cellsFrom (s.heap.objs.size + 1) scope.names []).lookup y.1).isSome = true) := by
    rintro ⟨n, v⟩ hy
    refine (S.par n (List.of_mem_zip hy).1).imp id fun q => ?_
    exact ⟨q, PySem.W.cellsFrom_some _ _ _ (.inl q)⟩
  apply codeAny_call_function hr.depth (KX _ _ lk) rfl S.co S.gen rfl (PySem.W.codeRec_of KX hcd)
  refine hb _ _ _ _ (wpAny_newFunctionEnv_cells S.kind hk fun env he s1 x => ?_)
  subst he
  refine ⟨lim.keeps x.toInCall.keep, codeAny_func ?_⟩
  obtain ⟨t, ht, hq⟩ := hbody cdv ⟨oc, od, osl, lk⟩ rfl hcd (hr.deeper _)
  have I : Inv (cxOf CX P w K mg base N qual scope f cdv A out s H E) [] (L2.start N vs) H s1 :=
    inv_start S hr.hd e0 hl r x
  refine wpAny_mono (ht.run [] s1 _ H _ I hq) (fun fl s' hs => ?_) fun _ _ q => q
  rcases fl with _ | _ | _ | u
  · obtain ⟨σ', H', J, q⟩ := hs
    exact ⟨.non, H', J.os, J.bare, J.base, J.hok, rfl, q⟩
  · obtain ⟨_, _, _, q⟩ := hs; exact q.elim
  · obtain ⟨_, _, _, q⟩ := hs; exact q.elim
  · obtain ⟨v, σ', H', J, rv, q⟩ := hs
    exact ⟨v, H', J.os, J.bare, J.base, J.hok, rv, q⟩
/-- a def by its body -/
theorem fn_G {CX : CXT} {P : Program} {w : World} {K : PySem.W.Frag} {mg : Str → Option Value} {base : Heap} {k : Nat} {f : Addr} {fd : FuncData} {name qual : Str} {params : Arguments} {body : List Stmt} {scope : Scope} {dvs : List V} {kws : List (Str × V)}
    {N ps : List Str} {sp : Sp} (F : FunD K name qual params body scope dvs kws f fd) (S : FnScope N ps scope) (ln : ∀ vs H Q E, sp vs H Q E → vs.length = ps.length)
    (hbody : ∀ (cdv : Value) (A : Around) (out : List Env) (s : Shared) (H : Hp) (vs : List V) (Q : VK) (E : XK), (∃ (oc : Value) (od : Option Addr) (osl : Array (Option Value)), K.lookup f = some ⟨oc, od, .func fd, osl⟩) → fd.code = cdv → PySem.W.codeIn K cdv qual = true → A.guards = some [] → Room k (A.deeper (envOfC qual scope s.heap.objs.size f cdv)) → sp vs H Q E →
      ∃ t, PSs (cxOf CX P w K mg base N qual scope f cdv A out s H E) body t ∧ t { nx := fun _ H' => Q .non H', rt := Q } (L2.start N vs) H) :
    FnG P w K mg base CX (k + 1) f fd ps sp :=
  ⟨ln, fun A out s H ar us vs Q E g hr e0 hb r hsp => fn_go F S hr e0 hb r (ln _ _ _ _ hsp) fun cdv h1 h2 h3 hr' => hbody cdv A out s H vs Q E h1 h2 h3 g hr' hsp⟩
/-- the law's call -/
theorem law_G {P : Program} {w : World} {K : PySem.W.Frag} {mg mb : Str → Option Value} {CX : CXT} {k : Nat} {fa a : Addr} {fd : FuncData} {x : Str} {sp : Sp} {s₁ : Shared} {vs : List Value} {ns : List Int}
    (KX : K.In s₁.heap) (hns : s₁.heap.Ns mainGlobals mg) (hb : s₁.heap.Ns builtinsNs mb) (hbb : ∀ x : Str, x ≠ "__name__" → mb x = bootBuiltins x) (lim : s₁.heap.NoLimit) (hg : s₁.gens = #[])
    (ha : s₁.heap.get? a = some { cls := .type "list", data := .seq vs.toArray }) (hi : IntsAre vs ns) (hl : ns.length ≤ sizeLine) (hr : Room k callerA)
    (F : ∀ base : Heap, K.In base → base.Ns mainGlobals mg → FnG P w K mg base CX k fa fd [x] sp) (bind : ∀ (s : Shared) (u : Value), BindsTo s fd ⟨[u], []⟩ [(x, u)])
    (hsp : ∀ H : Hp, Only H → SqL K H a (ns.map V.int) → sp [.ref a] H (fun v _ => v = .bl true) fun _ _ _ => False)
    (hCX : ∀ H e s', CX [] H s₁ (fun _ _ _ => False) e s' → False) :
    codeAny (model P w) callerA (.call (.ref fa) ⟨[.ref a], []⟩) (fun r s' => r = .ok (.ret (.bool true)) ∧ OldK s₁.heap s'.heap ∧ s'.os = s₁.os ∧ AllBare s'.gens) s₁ := by
  have main : ∀ H : Hp, Only H → SqL K H a (ns.map V.int) → HOk P w H s₁.heap →
      ((∀ b, H b = none) ∨ ((∀ b, b ≠ a → H b = none) ∧ K.lookup a = none)) →
      codeAny (model P w) callerA (.call (.ref fa) ⟨[.ref a], []⟩) (fun r s' => r = .ok (.ret (.bool true)) ∧
        OldK s₁.heap s'.heap ∧ s'.os = s₁.os ∧ AllBare s'.gens) s₁ := by
    intro H hO hS hok hA
    have hd : ∀ {b : Addr} {o : Obj} {es : Array DictEntry} {ep : Nat}, s₁.heap.get? b = some o → o.data = .dict es ep → H b = none := by
      intro b o es ep e d
      rcases hA with hA | ⟨hA, _⟩
      · exact hA b
      · by_cases hba : b = a
        · subst hba
          rw [ha] at e; cases e
          cases d
        · exact hA b hba
    have ns' : ∀ {b : Addr} {m : Str → Option Value}, s₁.heap.Ns b m → (hidT s₁.heap H).Ns b m := by
      rintro b m ⟨o, es, ep, e, d, r⟩
      exact ⟨o, es, ep, hidT_get e (hd e d), d, r⟩
    have hK : K.In (hidT s₁.heap H) := by
      intro b o e
      refine hidT_get (KX b o e) ?_
      rcases hA with hA | ⟨hA, hn⟩
      · exact hA b
      · refine hA b fun q => ?_
        rw [q, hn] at e; cases e
    have hM : Mod K mg (hidT s₁.heap H) := by
      obtain ⟨mc, h1, h2⟩ := lim
      exact ⟨hK, ns' hns, ⟨mb, ns' hb, hbb⟩, mc, ns' h1, h2⟩
    have e0 : Env0 P w K mg (hidT s₁.heap H) callerA [] s₁ H := by
      refine ⟨rfl, hM, fun b o e => of_hidT e, Nat.le_of_eq (hidT_size _ _), trivial, ?_, hok, .of_eq hg⟩
      intro b hb
      exact absurd (show b ∈ ([] : List Addr) from hb) List.not_mem_nil
    have Z := (F _ hK (ns' hns)).go callerA [] s₁ H ⟨[.ref a], []⟩ [.ref a] [.ref a] _ _ rfl hr e0 (bind s₁ (.ref a)) (.cons rfl .nil) (hsp H hO hS)
    refine codeAny_mono Z fun r s' h => ?_
    rcases r with e | fl
    · exact (hCX H e s' h).elim
    rcases fl with _ | _ | _ | u
    · exact h.elim
    · exact h.elim
    · exact h.elim
    obtain ⟨v, H', os, bare, un, hok', r', q⟩ := h
    obtain rfl : v = .bl true := q
    obtain rfl : u = Value.bool true := r'
    refine ⟨rfl, OldK.of_keep fun b o e => ?_, os, bare⟩
    rcases hO b with z | ⟨ob, xs, z⟩
    · exact un.keep b o e z (fun m => absurd (show b ∈ ([] : List Addr) from m) List.not_mem_nil) List.not_mem_nil
    · obtain ⟨e1, _⟩ := hok b _ z
      obtain ⟨e2, _⟩ := hok' b _ (un.frzs b ob _ z)
      rw [e] at e1; cases e1
      exact e2
  have rv := vals_ints hi
  cases hk : K.lookup a with
  | some o =>
    have e := KX a o hk
    rw [ha] at e; cases e
    refine main (fun _ => none) (fun _ => .inl rfl) ?_ (fun b u z => ?_) (.inl fun _ => rfl)
    · exact .inr ⟨_, vs.toArray, _, hk, rfl, rfl, rfl, by rw [List.size_toArray, hi.length]; exact hl, by simpa using rv⟩
    · cases (show (none : Option HO) = some u from z)
  | none =>
    refine main (fun b => if b = a then some (.frz { cls := .type "list", data := .seq vs.toArray } (.lst (ns.map V.int))) else none) ?_ ?_ ?_ (.inr ⟨fun b hb => if_neg hb, hk⟩)
    · intro b
      by_cases e : b = a
      · exact .inr ⟨_, _, if_pos e⟩
      · exact .inl (if_neg e)
    · exact .inl (.inr ⟨{ cls := .type "list", data := .seq vs.toArray }, if_pos rfl⟩)
    · intro b u z
      by_cases e : b = a
      · have z' := (if_pos e).symm.trans z
        cases z'
        subst e
        exact ⟨ha, by rw [List.length_map]; exact hl, vs, _, rv, ha⟩
      · cases (if_neg e).symm.trans z
/-- the end of the head -/
theorem walk_G {l : PySem.W.OpenLaw} {n k : Nat} {q : Program} {loose : List Str} {XP : (Str → Option Value) → Heap → Prop} {YP : World → Heap → Prop} {d : DefRec} {CX : CXT} {x : Str}
    (hn : l.most = some n) (hn2 : n ≤ sizeLine) (hdf : d.params.defaults = []) (hr : Room k callerA)
    (F : ∀ (w : World) (mg : Str → Option Value) (fa : Addr) (h : Heap), YP w h → h.Ns mainGlobals mg → mg d.name = some (.ref fa) →
      ∃ (K : PySem.W.Frag) (fd : FuncData) (sp : Sp), K.In h ∧ (∀ (s : Shared) (u : Value), BindsTo s fd ⟨[u], []⟩ [(x, u)]) ∧
        (∀ (H : Hp) (a : Addr) (ns : List Int), ns.length ≤ n → Only H → SqL K H a (ns.map V.int) → sp [.ref a] H (fun v _ => v = .bl true) fun _ _ _ => False) ∧
        ∀ base : Heap, K.In base → base.Ns mainGlobals mg → FnG l.prog w K mg base CX k fa fd [x] sp)
    (hCX : ∀ (H : Hp) (s : Shared) (e : Value) (s' : Shared), CX [] H s (fun _ _ _ => False) e s' → False) :
    PySem.W.WalkO q loose XP YP l.row.toRowW d [] (fun f vs => PySem.call f vs) := by
  refine Att.attach_call hn hdf fun w s₀ s₁ mg mb fa o pm cd doc a vs ns G Y ho hd hcd hmg hobj hints hlen hg => ?_
  obtain ⟨K, fd, sp, KX, bd, hs, hF⟩ := F w mg fa _ Y G.T.g hmg
  exact law_G KX G.T.g G.T.b G.T.builtins G.T.nolimit hg hobj hints (Nat.le_trans hlen hn2) hr hF bd
    (fun H hO hS => hs H a ns hlen hO hS) fun H e s' => hCX H s₁ e s'
end Rf
end

section
namespace Rf
open PySem PySem.Spec PyProof.Rows L2

/-! ## data, heaps, programs -/
inductive D where
  | non | bl (b : Bool) | int (i : Int) | str (s : List Char) | tup (xs : List D) | ob (n : Nat) | fn (i : Nat) | con (g : Nat)
  deriving Inhabited
inductive MO where
  | lst (xs : List D)
  | dic (lk t : Bool) (kvs : List (D × D))
  | ins (c : Nat) (fs : List (String × D))
  | scr (xs : List Int)
abbrev Hs := List MO
abbrev Sg := List (Option D)

inductive R (α : Type) where
  | ok (a : α) (h : Hs) | exc (c : Nat) (fs : List (String × D)) (h : Hs) | no
def R.bind {α β : Type} (r : R α) (f : α → Hs → R β) : R β := match r with
  | .ok a h => f a h
  | .exc c fs h => .exc c fs h
  | .no => .no
@[simp] theorem R.bind_ok {α β : Type} (a : α) (h : Hs) (f : α → Hs → R β) : (R.ok a h).bind f = f a h := rfl
@[simp] theorem R.bind_exc {α β : Type} (c fs h) (f : α → Hs → R β) : (R.exc c fs h : R α).bind f = .exc c fs h := rfl
@[simp] theorem R.bind_no {α β : Type} (f : α → Hs → R β) : (R.no : R α).bind f = .no := rfl

mutual
def toPy : D → PyData
  | .non => .none
  | .bl b => .bool b
  | .int i => .int i
  | .str s => .str ⟨(s.map Char.toNat).toArray⟩
  | .tup xs => .tuple (toPys xs)
  | .ob _ => .none
  | .fn _ => .none
  | .con _ => .none
def toPys : List D → List PyData
  | [] => []
  | x :: xs => toPy x :: toPys xs
end
mutual
def pur : D → Bool
  | .tup xs => purs xs
  | .ob _ => false
  | .fn _ => false
  | .con _ => false
  | _ => true
def purs : List D → Bool
  | [] => true
  | x :: xs => pur x && purs xs
end
mutual
def dep : D → Nat
  | .tup xs => deps xs + 1
  | _ => 0
def deps : List D → Nat
  | [] => 0
  | x :: xs => max (dep x) (deps xs)
end
mutual
def eqv : D → D → Bool
  | .non, .non => true
  | .bl a, .bl b => a == b
  | .bl a, .int j => (if a then 1 else 0) == j
  | .int i, .bl b => i == (if b then 1 else 0)
  | .int i, .int j => i == j
  | .str x, .str y => x == y
  | .tup xs, .tup ys => eqvs xs ys
  | _, _ => false
def eqvs : List D → List D → Bool
  | [], [] => true
  | x :: xs, y :: ys => eqv x y && eqvs xs ys
  | _, _ => false
end
def flat (d : D) : Bool := pur d && decide (dep d ≤ 64)

/-- == -/
def eqD (h : Hs) (x y : D) : Option Bool :=
  match x, y with
  | .ob n, .ob m => match h[n]?, h[m]? with
    | some (.lst xs), some (.lst ys) => if purs xs && purs ys && decide (deps xs ≤ 60) && decide (deps ys ≤ 60) then some (eqvs xs ys) else none
    | _, _ => none
  | _, _ => if flat x && flat y then some (eqv x y) else none

inductive Op where | add | sub | mul | fdiv | mod
  deriving DecidableEq
inductive Cp where | eq | ne | lt | le | gt | ge | in_ | nin | is_ | isn
  deriving DecidableEq
/-- what is walked -/
inductive Ik where | seq | rng1 | rng2 | keys | items | vals | zip | enum | rev
  deriving DecidableEq
inductive Tg where | nm (i : Nat) | tp (is : List Nat)
/-- built-in functions -/
inductive Bf where | len | abs | int | str | list | tuple | dict | min2 | max2 | isTup | isStr | isBool | isInt | isList | repr | sorted | bool | sum
  deriving DecidableEq

/-- methods of built-in values -/
inductive Mt where | update | append | extend | pop | insert | reverse | join | startswith | find | isalnum | get | lower
  deriving DecidableEq
inductive E where
  | var (i : Nat) | cst (d : D) | glb (g : Nat) | gst (g : Nat) (s : List Char) | gni (g : Nat) (i : Int) | fnv (f : Nat)
  | bin (o : Op) (a b : E) | neg (a : E)
  | cmp (o : Cp) (a b : E) | chn (o o' : Cp) (a b c : E)
  | and (a b : E) | or (a b : E) | not (a : E) | ife (c a b : E)
  | tup (es : List E) | lst (es : List E) | dic (t : Bool) (ks vs : List E)
  | ix (a i : E) | slc (a : E) (lo hi : List E) | back (a : E)
  | fld (a : E) (f : String)
  | cal (f : Nat) (es : List E) | cav (i : Nat) (es : List E)
  | new (c : Nat) (es : List E)
  | met (o : E) (m : String) (es : List E)
  | blt (b : Bf) (es : List E)
  | lc (own : List Nat) (tg : Tg) (k : Ik) (its : List E) (cd : List E) (el : E)
  | exf (i : Nat) (f : String)
  /-- a call with a lambda at its end: the def (with that lambda), the lambda, the arguments, what the lambda holds -/
  | cml (v j : Nat) (es cs : List E) | mml (c : Nat) (o : E) (m : String) (v j : Nat) (cs : List E)
  /-- the lambda that was given, called -/
  | cvl (i : Nat) (es : List E)

inductive S where
  | set (i : Nat) (e : E) | setT (is : List Nat) (e : E)
  | put (o i e : E) | fset (o : E) (f : String) (e : E)
  | aug (i : Nat) (o : Op) (e : E) | faug (a : E) (f : String) (o : Op) (e : E)
  | expr (e : E) | ret (e : E) | retN
  | ife (c : E) (a b : List S) | whl (c : E) (b : List S)
  | for_ (tg : Tg) (k : Ik) (its : List E) (b : List S)
  | raise (c : Nat) (es : List E)
  | try_ (b : List S) (hs : List (Nat × Option Nat × List S))
  | brk | cnt | pass | stuck
structure FI where
  np : Nat
  ns : Nat
  body : List S
  /-- of a def to which a lambda is given: where it stands, which one, how much it holds -/
  lm : Option (Nat × Nat × Nat) := none
structure CI where
  meths : List (String × Nat)
  ini : Option Nat
  flds : List String
structure Wd where
  fns : List FI
  cls : List CI
  cons : List (List D)
  isa : Nat → Nat → Bool
  scr : List Int := []
  exf : Nat → List String := fun _ => []

/-! ## texts of data -/
def plC (c : Char) : Bool := decide (32 ≤ c.toNat) && decide (c.toNat < 127) && decide (c.toNat ≠ 39) && decide (c.toNat ≠ 92)
def joinC : List (List Char) → List Char
  | [] => []
  | [x] => x
  | x :: y :: r => x ++ ',' :: ' ' :: joinC (y :: r)
mutual
def rp : D → List Char
  | .non => ['N', 'o', 'n', 'e']
  | .bl true => ['T', 'r', 'u', 'e']
  | .bl false => ['F', 'a', 'l', 's', 'e']
  | .int i => (toString i).toList
  | .str s => '\'' :: s ++ ['\'']
  | .tup xs => '(' :: joinC (rps xs) ++ (match xs with | [_] => [',', ')'] | _ => [')'])
  | _ => []
def rps : List D → List (List Char)
  | [] => []
  | x :: xs => rp x :: rps xs
end
mutual
def rpOk : D → Bool
  | .int i => decide (i.natAbs.log2 < 1920)
  | .str s => s.all plC
  | .tup xs => rpsOk xs
  | .non => true
  | .bl _ => true
  | _ => false
def rpsOk : List D → Bool
  | [] => true
  | x :: xs => rpOk x && rpsOk xs
end

/-! ## operations -/
def len2 {α : Type} (a b : List α) : Bool := decide (a.length + b.length ≤ sizeLine)
def opD (o : Op) (x y : D) (h : Hs) : R D :=
  match o, x, y with
  | .add, .int i, .int j => .ok (.int (i + j)) h
  | .sub, .int i, .int j => .ok (.int (i - j)) h
  | .mul, .int i, .int j => if (-(2 ^ 64) < i ∧ i < 2 ^ 64) ∨ (-(2 ^ 64) < j ∧ j < 2 ^ 64) then .ok (.int (i * j)) h else .no
  | .fdiv, .int i, .int j => if j ≠ 0 ∧ j.natAbs < 1073741824 then .ok (.int (i.fdiv j)) h else .no
  | .mod, .int i, .int j => if j ≠ 0 then .ok (.int (i.fmod j)) h else .no
  | .add, .str s, .str t => if s.length + t.length ≤ sizeLine then .ok (.str (s ++ t)) h else .no
  | .add, .tup s, .tup t => if s.length + t.length ≤ sizeLine then .ok (.tup (s ++ t)) h else .no
  | .mul, .str s, .int k => if 1 ≤ k ∧ k < 1000000 ∧ s ≠ [] ∧ s.length * k.toNat ≤ 1000000 then .ok (.str (List.replicate k.toNat s).flatten) h else .no
  | .add, .ob n, .ob m => match h[n]?, h[m]? with
    | some (.lst s), some (.lst t) => if s.length + t.length ≤ sizeLine then .ok (.ob h.length) (h ++ [.lst (s ++ t)]) else .no
    | _, _ => .no
  | _, _, _ => .no
def inL (x : D) (ys : List D) : Bool := ys.any fun y => eqv y x
def cmpI (g : Int → Int → Bool) (x y : D) (h : Hs) : R D := match x, y with
  | .int i, .int j => .ok (.bl (g i j)) h
  | _, _ => .no
def cmpD (o : Cp) (x y : D) (h : Hs) : R D :=
  match o with
  | .eq => match eqD h x y with | some b => .ok (.bl b) h | none => .no
  | .ne => match eqD h x y with | some b => .ok (.bl (!b)) h | none => .no
  | .lt => cmpI (fun i j => decide (i < j)) x y h
  | .le => cmpI (fun i j => decide (i ≤ j)) x y h
  | .gt => cmpI (fun i j => decide (j < i)) x y h
  | .ge => cmpI (fun i j => decide (j ≤ i)) x y h
  | _ => .no
def truth (x : D) (h : Hs) : Option Bool := match x with
  | .non => some false
  | .bl b => some b
  | .int i => some (i != 0)
  | .str s => if s.length ≤ sizeLine then some (!s.isEmpty) else none
  | .tup s => some (!s.isEmpty)
  | .ob n => match h[n]? with
    | some (.lst s) => some (!s.isEmpty)
    | some (.scr s) => some (!s.isEmpty)
    | _ => none
  | .fn _ => none
  | .con _ => none
end Rf
end

section
namespace Rf
open PySem PySem.Spec PyProof.Rows L2

def st (s : List Char) : Str := ⟨(s.map Char.toNat).toArray⟩
structure Gx where
  W : Wd
  K : PySem.W.Frag
  fa : Nat → Option Addr
  ca : Nat → Option Addr
  ga : Nat → Option Addr
  xd : Option (Addr × List (String × D))
  ex : Option (Nat × Addr)
  /-- the tables of code objects, the names of the code that they hold; the code object of the lambda at hand -/
  tb : List (Addr × Str)
  lc : Option (Addr × Str × List Addr)

mutual
def Rep (G : Gx) (as : List Addr) (H : Hp) : D → V → Prop
  | .non, v => v = .non
  | .bl b, v => v = .bl b
  | .int i, v => v = .int i
  | .str s, v => v = .str (st s)
  | .tup ds, v => ∃ a vs, v = .ref a ∧ H a = some (.tup vs) ∧ Reps G as H ds vs
  | .ob n, v => ∃ a, v = .ref a ∧ as[n]? = some a
  | .fn i, v => ∃ a, v = .ref a ∧ G.fa i = some a
  | .con g, v => ∃ a, v = .ref a ∧ G.ga g = some a
def Reps (G : Gx) (as : List Addr) (H : Hp) : List D → List V → Prop
  | [], vs => vs = []
  | d :: ds, vs => ∃ v r, vs = v :: r ∧ Rep G as H d v ∧ Reps G as H ds r
end
/-- keys -/
def keyK : D → Option Key
  | .int i => some (.inl i)
  | .str s => some (.inr (st s))
  | _ => none
def keyKs : List D → Option (List Key)
  | [] => some []
  | d :: ds => match keyK d, keyKs ds with
    | some k, some ks => some (k :: ks)
    | _, _ => none
def keyT : D → Option (List Key)
  | .tup ds => keyKs ds
  | _ => none
def RepKV {κ : Type} (ky : D → Option κ) (G : Gx) (as : List Addr) (H : Hp) : List (D × D) → List (κ × V) → Prop :=
  Paired fun p q => ky p.1 = some q.1 ∧ Rep G as H p.2 q.2
def RepF (G : Gx) (as : List Addr) (H : Hp) : List (String × D) → List (Str × V) → Prop :=
  Paired fun p q => q.1 = Str.ofString p.1 ∧ Rep G as H p.2 q.2
def lkd (lk : Bool) (H : Hp) (a : Addr) (o : HO) : Prop := if lk then ∃ od, H a = some (.frz od o) else H a = some o
def ObR (G : Gx) (as : List Addr) (H : Hp) (a : Addr) : MO → Prop
  | .lst xs => ∃ vs, H a = some (.lst vs) ∧ Reps G as H xs vs
  | .dic lk false kvs => ∃ kv, lkd lk H a (.dK kv) ∧ RepKV keyK G as H kvs kv
  | .dic lk true kvs => ∃ kv, lkd lk H a (.dT kv) ∧ RepKV keyT G as H kvs kv
  | .ins c fs => ∃ C dx vs, G.ca c = some C ∧ H a = some (.ins C dx vs) ∧ RepF G as H fs vs
  | .scr ns => ∃ o, H a = some (.frz o (.lst (ns.map V.int)))
/-- the fields of the exception at hand -/
def XdR (G : Gx) (as : List Addr) (H : Hp) : Prop := (∀ dd fs, G.xd = some (dd, fs) → dd ∉ as ∧ ∃ vs, H dd = some (.xd vs) ∧ RepF G as H fs vs) ∧ ∀ c q as0, G.lc = some (c, q, as0) → (c ∉ as ∧ H c = some (LamX.CodeO c q)) ∧ ∀ (n : Nat) (a : Addr), as0[n]? = some a → as[n]? = some a
structure HI (G : Gx) (h : Hs) (as : List Addr) (H : Hp) : Prop where
  xd : XdR G as H
  tb : LamX.Tabs G.tb H
  len : as.length = h.length
  nd : as.Nodup
  ob : ∀ (n : Nat) (mo : MO) (a : Addr), h[n]? = some mo → as[n]? = some a → ObR G as H a mo
structure SL (G : Gx) (σI : Sg) (as : List Addr) (H : Hp) (σ : L2.St) : Prop where
  len : σI.length = σ.length
  at_ : ∀ (i : Nat) (d : D), σI[i]? = some (some d) → ∃ v, σ[i]? = some (some v) ∧ Rep G as H d v
  ex : ∀ (i : Nat) (a : Addr), G.ex = some (i, a) → σI[i]? = some none → σ[i]? = some (some (.ref a))
structure Ext (as : List Addr) (H : Hp) (as' : List Addr) (H' : Hp) : Prop where
  pre : ∀ (n : Nat) (a : Addr), as[n]? = some a → as'[n]? = some a
  tup : ∀ (a : Addr) (xs : List V), H a = some (.tup xs) → H' a = some (.tup xs)
  frz : ∀ (a : Addr) (o : Obj) (u : HO), H a = some (.frz o u) → H' a = some (.frz o u)
  out : ∀ (a : Addr) (o : HO), H a = some o → a ∉ as' → (∀ ps, o ≠ .tbl ps) → H' a = some o
  tbl : ∀ (a : Addr) (ps : Array Value), H a = some (.tbl ps) → ∃ more, H' a = some (.tbl (ps ++ more))
  fresh : ∀ (a : Addr), a ∈ as' → a ∉ as → H a = none
theorem Ext.refl {as H} : Ext as H as H := ⟨fun _ _ h => h, fun _ _ h => h, fun _ _ _ h => h, fun _ _ h _ _ => h, fun _ ps h => ⟨#[], by simpa using h⟩, fun _ h h' => absurd h h'⟩
theorem Ext.mem {as H as1 H1} (x : Ext as H as1 H1) {a : Addr} (h : a ∈ as) : a ∈ as1 := by
  obtain ⟨n, hn⟩ := List.getElem?_of_mem h
  exact List.mem_of_getElem? (x.pre n a hn)
theorem Ext.trans {as H as1 H1 as2 H2} (a : Ext as H as1 H1) (b : Ext as1 H1 as2 H2) : Ext as H as2 H2 := by
  refine ⟨fun n x h => b.pre n x (a.pre n x h), fun x xs h => b.tup x xs (a.tup x xs h), fun x o u h => b.frz x o u (a.frz x o u h), fun x o h hn nt => b.out x o (a.out x o h (fun q => hn (b.mem q)) nt) hn nt, fun x ps h => ?_, fun x h hn => ?_⟩
  · obtain ⟨m1, e1⟩ := a.tbl x ps h
    obtain ⟨m2, e2⟩ := b.tbl x _ e1
    exact ⟨m1 ++ m2, by rw [e2, Array.append_assoc]⟩
  by_cases hm : x ∈ as1
  · exact a.fresh x hm hn
  · cases e : H x with
    | none => rfl
    | some o =>
      have := b.fresh x h hm
      by_cases nt : ∃ ps, o = .tbl ps
      · obtain ⟨ps, rfl⟩ := nt
        obtain ⟨m1, e1⟩ := a.tbl x ps e
        rw [e1] at this; cases this
      · rw [a.out x o e hm fun ps q => nt ⟨ps, q⟩] at this; cases this
mutual
theorem Rep.mono0 {G : Gx} {as H as' H'} (pre : ∀ (n : Nat) (a : Addr), as[n]? = some a → as'[n]? = some a) (tup : ∀ (a : Addr) (xs : List V), H a = some (.tup xs) → H' a = some (.tup xs)) : ∀ {d : D} {v : V}, Rep G as H d v → Rep G as' H' d v
  | .non, _, h => h
  | .bl _, _, h => h
  | .int _, _, h => h
  | .str _, _, h => h
  | .tup ds, _, h => by
    simp only [Rep] at h ⊢
    obtain ⟨a, vs, e, s, r⟩ := h
    exact ⟨a, vs, e, tup _ _ s, Reps.mono0 pre tup r⟩
  | .ob n, _, h => by
    simp only [Rep] at h ⊢
    obtain ⟨a, e, s⟩ := h
    exact ⟨a, e, pre _ _ s⟩
  | .fn i, _, h => h
  | .con i, _, h => h
theorem Reps.mono0 {G : Gx} {as H as' H'} (pre : ∀ (n : Nat) (a : Addr), as[n]? = some a → as'[n]? = some a) (tup : ∀ (a : Addr) (xs : List V), H a = some (.tup xs) → H' a = some (.tup xs)) : ∀ {ds : List D} {vs : List V}, Reps G as H ds vs → Reps G as' H' ds vs
  | [], _, h => h
  | d :: ds, _, h => by
    simp only [Reps] at h ⊢
    obtain ⟨v, r, e, h1, h2⟩ := h
    exact ⟨v, r, e, Rep.mono0 pre tup h1, Reps.mono0 pre tup h2⟩
end
theorem Rep.mono {G : Gx} {as H as' H'} (x : Ext as H as' H') {d : D} {v : V} (h : Rep G as H d v) : Rep G as' H' d v := h.mono0 x.pre x.tup
theorem Reps.mono {G : Gx} {as H as' H'} (x : Ext as H as' H') {ds : List D} {vs : List V} (h : Reps G as H ds vs) : Reps G as' H' ds vs := h.mono0 x.pre x.tup
theorem SL.mono {G : Gx} {σI as H as' H' σ} (x : Ext as H as' H') (s : SL G σI as H σ) : SL G σI as' H' σ :=
  ⟨s.len, fun i d h => let ⟨v, e, r⟩ := s.at_ i d h; ⟨v, e, r.mono x⟩, s.ex⟩
theorem RepKV.mono {κ : Type} {ky : D → Option κ} {G : Gx} {as H as' H'} (x : Ext as H as' H') {a : List (D × D)} {b : List (κ × V)} (h : RepKV ky G as H a b) : RepKV ky G as' H' a b :=
  Paired.mapP h fun _ _ z => ⟨z.1, z.2.mono x⟩
theorem RepF.mono {G : Gx} {as H as' H'} (x : Ext as H as' H') {a b} (h : RepF G as H a b) : RepF G as' H' a b :=
  Paired.mapP h fun _ _ z => ⟨z.1, z.2.mono x⟩
theorem XdR.ext {G : Gx} {as H as' H'} (x : Ext as H as' H') (h : XdR G as H) : XdR G as' H' := by
  refine ⟨fun dd fs e => ?_, fun c q as0 e => ?_⟩
  · obtain ⟨h1, vs, h2, h3⟩ := h.1 dd fs e
    have n : dd ∉ as' := fun q => by
      have := x.fresh dd q h1
      rw [h2] at this; cases this
    exact ⟨n, vs, x.out dd _ h2 n (fun _ z => by cases z), h3.mono x⟩
  · obtain ⟨⟨h1, h2⟩, h3⟩ := h.2 c q as0 e
    have n : c ∉ as' := fun z => by
      have := x.fresh c z h1
      rw [h2] at this; cases this
    exact ⟨⟨n, x.out c _ h2 n fun ps z => LamX.codeO_ne ps z⟩, fun m a z => x.pre m a (h3 m a z)⟩
theorem ObR.mono0 {G : Gx} {as H as' H' a} (pre : ∀ (n : Nat) (a : Addr), as[n]? = some a → as'[n]? = some a) (tup : ∀ (a : Addr) (xs : List V), H a = some (.tup xs) → H' a = some (.tup xs)) (e : H' a = H a) : ∀ {mo : MO}, ObR G as H a mo → ObR G as' H' a mo
  | .lst xs, h => by
    obtain ⟨vs, h1, h2⟩ := h
    exact ⟨vs, e ▸ h1, h2.mono0 pre tup⟩
  | .dic lk false kvs, h => by
    obtain ⟨kv, h1, h2⟩ := h
    refine ⟨kv, ?_, Paired.mapP h2 fun _ _ z => ⟨z.1, z.2.mono0 pre tup⟩⟩
    unfold lkd at h1 ⊢; rw [e]; exact h1
  | .dic lk true kvs, h => by
    obtain ⟨kv, h1, h2⟩ := h
    refine ⟨kv, ?_, Paired.mapP h2 fun _ _ z => ⟨z.1, z.2.mono0 pre tup⟩⟩
    unfold lkd at h1 ⊢; rw [e]; exact h1
  | .ins c fs, h => by
    obtain ⟨C, dx, vs, h1, h2, h3⟩ := h
    exact ⟨C, dx, vs, h1, e ▸ h2, Paired.mapP h3 fun _ _ z => ⟨z.1, z.2.mono0 pre tup⟩⟩
  | .scr ns, h => by
    obtain ⟨o, h1⟩ := h
    exact ⟨o, e ▸ h1⟩
theorem ObR.mono {G : Gx} {as H as' H' a} (x : Ext as H as' H') (e : H' a = H a) {mo : MO} (h : ObR G as H a mo) : ObR G as' H' a mo := h.mono0 x.pre x.tup e
theorem Reps.length {G : Gx} {as H} : ∀ {ds : List D} {vs : List V}, Reps G as H ds vs → ds.length = vs.length
  | [], _, h => by simp only [Reps] at h; subst h; rfl
  | d :: ds, _, h => by
    simp only [Reps] at h
    obtain ⟨v, r, rfl, h1, h2⟩ := h
    simp [Reps.length h2]
theorem Reps.get {G : Gx} {as H} : ∀ {ds : List D} {vs : List V} {i : Nat} {d : D}, Reps G as H ds vs → ds[i]? = some d → ∃ v, vs[i]? = some v ∧ Rep G as H d v
  | [], _, _, _, _, e => by simp at e
  | d :: ds, _, 0, _, h, e => by
    simp only [Reps] at h
    obtain ⟨v, r, rfl, h1, h2⟩ := h
    simp at e; subst e
    exact ⟨v, rfl, h1⟩
  | d :: ds, _, i + 1, _, h, e => by
    simp only [Reps] at h
    obtain ⟨v, r, rfl, h1, h2⟩ := h
    simpa using Reps.get h2 (by simpa using e)
theorem Reps.append {G : Gx} {as H} : ∀ {ds es : List D} {vs ws : List V}, Reps G as H ds vs → Reps G as H es ws → Reps G as H (ds ++ es) (vs ++ ws)
  | [], _, _, _, h, k => by simp only [Reps] at h; subst h; simpa using k
  | d :: ds, _, _, _, h, k => by
    simp only [Reps] at h
    obtain ⟨v, r, rfl, h1, h2⟩ := h
    simp only [List.cons_append, Reps]
    exact ⟨v, _, rfl, h1, Reps.append h2 k⟩
theorem Reps.one {G : Gx} {as H d v} (h : Rep G as H d v) : Reps G as H [d] [v] := by
  simp only [Reps]; exact ⟨v, [], rfl, h, rfl⟩
theorem Reps.drop {G : Gx} {as H} : ∀ (n : Nat) {ds : List D} {vs : List V}, Reps G as H ds vs → Reps G as H (ds.drop n) (vs.drop n)
  | 0, _, _, h => h
  | n + 1, [], _, h => by simp only [Reps] at h; subst h; simp [Reps]
  | n + 1, d :: ds, _, h => by
    simp only [Reps] at h
    obtain ⟨v, r, rfl, h1, h2⟩ := h
    exact Reps.drop n h2
theorem Reps.take {G : Gx} {as H} : ∀ (n : Nat) {ds : List D} {vs : List V}, Reps G as H ds vs → Reps G as H (ds.take n) (vs.take n)
  | 0, _, _, h => by simp [Reps]
  | n + 1, [], _, h => by simp only [Reps] at h; subst h; simp [Reps]
  | n + 1, d :: ds, _, h => by
    simp only [Reps] at h
    obtain ⟨v, r, rfl, h1, h2⟩ := h
    simp only [List.take_succ_cons, Reps]
    exact ⟨v, _, rfl, h1, Reps.take n h2⟩
theorem Reps.set {G : Gx} {as H d v} (hd : Rep G as H d v) : ∀ (n : Nat) {ds : List D} {vs : List V}, Reps G as H ds vs → Reps G as H (ds.set n d) (vs.set n v)
  | _, [], _, h => by simp only [Reps] at h; subst h; simp [Reps]
  | 0, e :: ds, _, h => by
    simp only [Reps] at h
    obtain ⟨w, r, rfl, h1, h2⟩ := h
    simp only [List.set_cons_zero, Reps]
    exact ⟨v, _, rfl, hd, h2⟩
  | n + 1, e :: ds, _, h => by
    simp only [Reps] at h
    obtain ⟨w, r, rfl, h1, h2⟩ := h
    simp only [List.set_cons_succ, Reps]
    exact ⟨w, _, rfl, h1, Reps.set hd n h2⟩
theorem Reps.reverse {G : Gx} {as H} : ∀ {ds : List D} {vs : List V}, Reps G as H ds vs → Reps G as H ds.reverse vs.reverse
  | [], _, h => by simp only [Reps] at h; subst h; simp [Reps]
  | d :: ds, _, h => by
    simp only [Reps] at h
    obtain ⟨v, r, rfl, h1, h2⟩ := h
    rw [List.reverse_cons, List.reverse_cons]
    exact Reps.append (Reps.reverse h2) (Reps.one h1)
theorem Reps.ints {G : Gx} {as H} : ∀ {ns : List Int}, Reps G as H (ns.map D.int) (ns.map V.int)
  | [] => by simp [Reps]
  | n :: ns => by simp only [List.map_cons, Reps]; exact ⟨_, _, rfl, rfl, Reps.ints⟩
theorem Reps.nil_iff {G : Gx} {as H ds vs} (h : Reps G as H ds vs) : ds = [] ↔ vs = [] := by
  have := h.length
  constructor
  · rintro rfl; exact List.length_eq_zero_iff.mp (by simpa using this.symm)
  · rintro rfl; exact List.length_eq_zero_iff.mp (by simpa using this)

/-! ## extension by a new object, by a store -/
section
variable {G : Gx} {h : Hs} {as : List Addr} {H : Hp}
theorem tup_upd {H : Hp} {p : Addr} {o : HO} {a : Addr} {xs : List V} (hp : ∀ ys, H p ≠ some (.tup ys)) (h : H a = some (.tup xs)) : upd H p o a = some (.tup xs) := by
  rw [upd_ne (fun e => by subst e; exact hp _ h)]; exact h
theorem frz_upd {H : Hp} {p : Addr} {o : HO} {a : Addr} {ob : Obj} {u : HO} (hp : ∀ ob u, H p ≠ some (.frz ob u)) (h : H a = some (.frz ob u)) : upd H p o a = some (.frz ob u) := by
  rw [upd_ne (fun e => by subst e; exact hp _ _ h)]; exact h
theorem HI.get (I : HI G h as H) {n : Nat} {mo : MO} (e : h[n]? = some mo) : ∃ a, as[n]? = some a ∧ ObR G as H a mo := by
  have hl : n < as.length := by rw [I.len]; exact (List.getElem?_eq_some_iff.mp e).1
  exact ⟨as[n], by simp [hl], I.ob n mo _ e (by simp [hl])⟩
theorem lkd_some {lk H a o} (h : lkd lk H a o) : ∃ u, H a = some u := by
  unfold lkd at h
  split at h
  · obtain ⟨od, e⟩ := h; exact ⟨_, e⟩
  · exact ⟨_, h⟩
theorem ObR.some_ {a : Addr} : ∀ {mo : MO}, ObR G as H a mo → ∃ u, H a = some u
  | .lst _, ⟨_, e, _⟩ => ⟨_, e⟩
  | .dic _ false _, ⟨_, e, _⟩ => lkd_some e
  | .dic _ true _, ⟨_, e, _⟩ => lkd_some e
  | .ins _ _, ⟨_, _, _, _, e, _⟩ => ⟨_, e⟩
  | .scr _, ⟨_, e⟩ => ⟨_, e⟩
theorem HI.fresh (I : HI G h as H) {p : Addr} (hp : H p = none) : p ∉ as := fun hm => by
  obtain ⟨n, hn⟩ := List.getElem?_of_mem hm
  have hl : n < h.length := by rw [← I.len]; exact (List.getElem?_eq_some_iff.mp hn).1
  obtain ⟨u, e⟩ := (I.ob n h[n] p (by simp [hl]) hn).some_
  rw [hp] at e; cases e
theorem ext_new {p : Addr} {o : HO} (hp : H p = none) : Ext as H (as ++ [p]) (upd H p o) :=
  ⟨fun n a e => by rw [List.getElem?_append_left (List.getElem?_eq_some_iff.mp e).1]; exact e,
   fun a xs s => tup_upd (fun _ q => by rw [hp] at q; cases q) s, fun a ob u s => frz_upd (fun _ _ q => by rw [hp] at q; cases q) s,
   fun a ob e _ _ => by rw [upd_ne (ne_of_none e hp)]; exact e, fun a ps e => ⟨#[], by rw [upd_ne (ne_of_none e hp)]; simpa using e⟩, fun a h hn => by
    rcases List.mem_append.mp h with h | h
    · exact absurd h hn
    · rw [List.mem_singleton.mp h]; exact hp⟩
/-- a new tuple, not an object of ours -/
theorem ext_tup {p : Addr} {o : HO} (hp : H p = none) : Ext as H as (upd H p o) :=
  ⟨fun n a e => e, fun a xs s => tup_upd (fun _ q => by rw [hp] at q; cases q) s, fun a ob u s => frz_upd (fun _ _ q => by rw [hp] at q; cases q) s,
   fun a ob e _ _ => by rw [upd_ne (ne_of_none e hp)]; exact e, fun a ps e => ⟨#[], by rw [upd_ne (ne_of_none e hp)]; simpa using e⟩, fun a h hn => absurd h hn⟩
theorem tabs_new {T : List (Addr × Str)} {p : Addr} {o : HO} (t : LamX.Tabs T H) (hp : H p = none) : LamX.Tabs T (upd H p o) := t.ext fun b u e => by rw [upd_ne (ne_of_none e hp)]; exact e
/-- neither a table nor a code object -/
def NoT (o : Option HO) : Prop := ∀ u, o = some u → (∀ ps, u ≠ .tbl ps) ∧ ∀ φ, u ≠ .ext φ
theorem tabs_at {T : List (Addr × Str)} {p : Addr} {H H' : Hp} (t : LamX.Tabs T H) (e : ∀ b o, b ≠ p → H b = some o → H' b = some o) (hp : NoT (H p)) : LamX.Tabs T H' := fun q hq => by
  obtain ⟨ps, h1, h2, h3⟩ := t q hq
  refine ⟨ps, e _ _ (fun z => (hp _ (z ▸ h1)).1 ps rfl) h1, h2, fun pos cv hc => ?_⟩
  obtain ⟨c, rfl, h4⟩ := h3 pos cv hc
  exact ⟨c, rfl, e _ _ (fun z => (hp _ (z ▸ h4)).2 _ rfl) h4⟩
theorem tabs_set {T : List (Addr × Str)} {p : Addr} {o : HO} (t : LamX.Tabs T H) (hp : NoT (H p)) : LamX.Tabs T (upd H p o) := tabs_at t (fun b u n e => by rw [upd_ne n]; exact e) hp
theorem lkd_noT {lk : Bool} {a : Addr} {u : HO} (h : lkd lk H a u) (hu : NoT (some u)) : NoT (H a) := by
  unfold lkd at h
  split at h
  · obtain ⟨od, e⟩ := h
    rw [e]; intro v q; cases q; exact ⟨fun _ z => (nomatch z), fun _ z => (nomatch z)⟩
  · rw [h]; exact hu
theorem ObR.noT {a : Addr} : ∀ {mo : MO}, ObR G as H a mo → NoT (H a)
  | .lst _, ⟨_, e, _⟩ => fun u q => by rw [e] at q; cases q; exact ⟨fun _ z => (nomatch z), fun _ z => (nomatch z)⟩
  | .dic _ false _, ⟨_, e, _⟩ => lkd_noT e fun u q => by cases q; exact ⟨fun _ z => (nomatch z), fun _ z => (nomatch z)⟩
  | .dic _ true _, ⟨_, e, _⟩ => lkd_noT e fun u q => by cases q; exact ⟨fun _ z => (nomatch z), fun _ z => (nomatch z)⟩
  | .ins _ _, ⟨_, _, _, _, e, _⟩ => fun u q => by rw [e] at q; cases q; exact ⟨fun _ z => (nomatch z), fun _ z => (nomatch z)⟩
  | .scr _, ⟨_, e⟩ => fun u q => by rw [e] at q; cases q; exact ⟨fun _ z => (nomatch z), fun _ z => (nomatch z)⟩
theorem HI.noT (I : HI G h as H) {p : Addr} (hm : p ∈ as) : NoT (H p) := by
  obtain ⟨n, hn⟩ := List.getElem?_of_mem hm
  have hl : n < h.length := by rw [← I.len]; exact (List.getElem?_eq_some_iff.mp hn).1
  exact (I.ob n h[n] p (by simp [hl]) hn).noT
theorem HI.other (I : HI G h as H) {p : Addr} {o : HO} (hp : H p = none) : HI G h as (upd H p o) :=
  ⟨I.xd.ext (ext_tup hp), tabs_new I.tb hp, I.len, I.nd, fun n mo a e1 e2 => (I.ob n mo a e1 e2).mono (ext_tup hp) (upd_ne fun e => I.fresh hp (e ▸ List.mem_of_getElem? e2))⟩
/-- a new object of ours -/
theorem HI.new (I : HI G h as H) {p : Addr} {o : HO} {mo : MO} (hp : H p = none) (r : ObR G (as ++ [p]) (upd H p o) p mo) : HI G (h ++ [mo]) (as ++ [p]) (upd H p o) := by
  refine ⟨I.xd.ext (ext_new hp), tabs_new I.tb hp, by simp [I.len], ?_, fun n mo' a e1 e2 => ?_⟩
  · rw [List.nodup_append]
    refine ⟨I.nd, by simp, fun a ha b hb => ?_⟩
    simp at hb; subst hb
    exact fun e => I.fresh hp (e ▸ ha)
  · by_cases hn : n < h.length
    · rw [List.getElem?_append_left hn] at e1
      rw [List.getElem?_append_left (by rw [I.len]; exact hn)] at e2
      exact (I.ob n mo' a e1 e2).mono (ext_new hp) (upd_ne fun e => I.fresh hp (e ▸ List.mem_of_getElem? e2))
    · have hn2 : n = h.length := by
        have := (List.getElem?_eq_some_iff.mp e1).1
        simp at this; omega
      subst hn2
      rw [List.getElem?_append_right (by omega)] at e1
      rw [List.getElem?_append_right (by rw [I.len]; exact Nat.le_refl _)] at e2
      simp [I.len] at e1 e2
      subst e1 e2
      exact r
/-- a store into an object of ours -/
theorem ext_set {n : Nat} {p : Addr} {o u : HO} (hn : as[n]? = some p) (hp : H p = some u) (ht : ∀ ys, u ≠ .tup ys) (hf : ∀ ob w, u ≠ .frz ob w) (hb : ∀ ps, u ≠ .tbl ps := by intro _ z; cases z) : Ext as H as (upd H p o) :=
  ⟨fun _ _ e => e, fun a xs s => tup_upd (fun ys q => by rw [hp] at q; exact ht ys (Option.some.inj q)) s, fun a ob w s => frz_upd (fun ob w q => by rw [hp] at q; exact hf ob w (Option.some.inj q)) s,
   fun a ob e ha _ => by rw [upd_ne (fun q => ha (by rw [q]; exact List.mem_of_getElem? hn))]; exact e, fun a ps e => ⟨#[], by rw [upd_ne (fun q => by rw [q, hp] at e; exact hb ps (Option.some.inj e))]; simpa using e⟩, fun a h hn => absurd h hn⟩
theorem HI.set (I : HI G h as H) {n : Nat} {p : Addr} {o u : HO} {mo : MO} (hn : as[n]? = some p) (hp : H p = some u) (ht : ∀ ys, u ≠ .tup ys) (hf : ∀ ob w, u ≠ .frz ob w) (r : ObR G as (upd H p o) p mo) : HI G (h.set n mo) as (upd H p o) := by
  have hm : p ∈ as := List.mem_of_getElem? hn
  have hb : ∀ ps, u ≠ .tbl ps := (I.noT hm u hp).1
  refine ⟨I.xd.ext (ext_set hn hp ht hf hb), tabs_set I.tb (I.noT hm), by simp [I.len], I.nd, fun m mo' a e1 e2 => ?_⟩
  by_cases hm : m = n
  · subst hm
    rw [hn] at e2; cases e2
    have hl : m < h.length := by rw [← I.len]; exact (List.getElem?_eq_some_iff.mp hn).1
    rw [List.getElem?_set_self hl] at e1; cases e1
    exact r
  · rw [List.getElem?_set_ne (Ne.symm hm)] at e1
    refine (I.ob m mo' a e1 e2).mono (ext_set hn hp ht hf hb) (upd_ne fun e => hm ?_)
    subst e
    exact (List.getElem?_inj (List.getElem?_eq_some_iff.mp e2).1 I.nd).mp (e2.trans hn.symm)
end

/-! ## == -/
theorem st_beq (s t : List Char) : (st s == st t) = (s == t) := by
  unfold st
  rw [Bool.eq_iff_iff, beq_iff_eq, beq_iff_eq]
  constructor
  · intro e
    have e1 := congrArg (fun z => z.cps.toList) e
    exact (List.map_inj_right (fun a b h => Char.toNat_inj.mp h)).mp e1
  · intro e; rw [e]
mutual
theorem eqv_toPy : ∀ (x y : D), pur x = true → pur y = true → PyData.eqv (toPy x) (toPy y) = eqv x y
  | x, y, hx, hy => by
    cases x <;> cases y <;> simp only [pur] at hx hy <;> try (simp only [toPy, PyData.eqv, eqv] <;> done)
    all_goals first
      | (cases hx; done)
      | (cases hy; done)
      | (simp only [toPy, PyData.eqv, eqv]
         first
          | exact eqvs_toPy _ _ hx hy
          | exact st_beq _ _)
theorem eqvs_toPy : ∀ (xs ys : List D), purs xs = true → purs ys = true → PyData.eqvAll (toPys xs) (toPys ys) = eqvs xs ys
  | [], [], _, _ => by simp only [toPys, PyData.eqvAll, eqvs]
  | [], _ :: _, _, _ => by simp only [toPys, PyData.eqvAll, eqvs]
  | _ :: _, [], _, _ => by simp only [toPys, PyData.eqvAll, eqvs]
  | x :: xs, y :: ys, hx, hy => by
    simp only [purs, Bool.and_eq_true] at hx hy
    simp only [toPys, PyData.eqvAll, eqvs, eqv_toPy x y hx.1 hy.1, eqvs_toPy xs ys hx.2 hy.2]
end
end Rf
end

section
namespace Rf
open PySem PySem.Spec PyProof.Rows L2

inductive Fl where | nx (σ : Sg) | rt (d : D) | bk (σ : Sg) | ct (σ : Sg)
inductive RS where | ok (f : Fl) (h : Hs) | exc (c : Nat) (fs : List (String × D)) (σ : Sg) (h : Hs) | no
def RS.then (r : RS) (f : Sg → Hs → RS) : RS := match r with
  | .ok (.nx σ) h => f σ h
  | r => r
@[simp] theorem RS.then_nx (σ h f) : (RS.ok (.nx σ) h).then f = f σ h := rfl
@[simp] theorem RS.then_rt (d h f) : (RS.ok (.rt d) h).then f = .ok (.rt d) h := rfl
@[simp] theorem RS.then_bk (d h f) : (RS.ok (.bk d) h).then f = .ok (.bk d) h := rfl
@[simp] theorem RS.then_ct (d h f) : (RS.ok (.ct d) h).then f = .ok (.ct d) h := rfl
@[simp] theorem RS.then_exc (c fs σ h f) : (RS.exc c fs σ h).then f = .exc c fs σ h := rfl
@[simp] theorem RS.then_no (f) : RS.no.then f = .no := rfl
/-- an expression's outcome within a statement -/
def R.stm {α : Type} (r : R α) (σ : Sg) (f : α → Hs → RS) : RS := match r with
  | .ok a h => f a h
  | .exc c fs h => .exc c fs σ h
  | .no => .no
@[simp] theorem R.stm_ok {α : Type} (a : α) (h : Hs) (σ) (f : α → Hs → RS) : (R.ok a h).stm σ f = f a h := rfl
@[simp] theorem R.stm_exc {α : Type} (c fs h σ) (f : α → Hs → RS) : (R.exc c fs h : R α).stm σ f = .exc c fs σ h := rfl
@[simp] theorem R.stm_no {α : Type} (σ) (f : α → Hs → RS) : (R.no : R α).stm σ f = .no := rfl

def ofO {α : Type} (o : Option α) (h : Hs) : R α := match o with | some a => .ok a h | none => .no
@[simp] theorem ofO_some {α : Type} (a : α) (h : Hs) : ofO (some a) h = .ok a h := rfl
@[simp] theorem ofO_none {α : Type} (h : Hs) : ofO (none : Option α) h = .no := rfl
/-- no exception leaves a comprehension -/
def R.shut {α : Type} (r : R α) : R α := match r with | .exc _ _ _ => .no | r => r
@[simp] theorem R.shut_ok {α : Type} (a : α) (h : Hs) : (R.ok a h).shut = .ok a h := rfl
@[simp] theorem R.shut_exc {α : Type} (c fs h) : (R.exc c fs h : R α).shut = .no := rfl
@[simp] theorem R.shut_no {α : Type} : (R.no : R α).shut = .no := rfl

def truthR (x : D) (h : Hs) : R Bool := ofO (truth x h) h

/-! ## subscripts, slices, methods, built-ins -/
def kvGet (kvs : List (D × D)) (k : D) : Option D := match kvs with
  | [] => none
  | (a, b) :: r => if eqv a k then some b else kvGet r k
def kvPut (kvs : List (D × D)) (k v : D) : List (D × D) :=
  if (kvs.any fun p => eqv p.1 k) = true then kvs.map (fun p => if eqv p.1 k = true then (p.1, v) else p) else kvs ++ [(k, v)]
def kvDel (kvs : List (D × D)) (k : D) : List (D × D) := kvs.filter fun p => !eqv p.1 k
/-- may it be a key of such a dict -/
def isK : D → Bool
  | .int _ => true
  | .str _ => true
  | _ => false
def isT : D → Bool
  | .tup ds => ds.all isK
  | _ => false
def okK (t : Bool) (kvs : List (D × D)) (k : D) : Bool := if t then isT k && kvs.all (fun p => isT p.1) else isK k && kvs.all (fun p => isK p.1)
def ixD (cs : List (List D)) (x y : D) (h : Hs) : R D := match x, y with
  | .con g, .int i => match cs[g]? with
    | some ys => ofO (atI ys i) h
    | none => .no
  | .tup xs, .int i => ofO (atI xs i) h
  | .str s, .int i => if s.length ≤ sizeLine then ofO ((atI s i).map fun c => .str [c]) h else .no
  | .ob n, k => match h[n]?, k with
    | some (.lst xs), .int i => ofO (atI xs i) h
    | some (.scr xs), .int i => ofO ((atI xs i).map D.int) h
    | some (.dic _ t kvs), k => if okK t kvs k then ofO (kvGet kvs k) h else .no
    | _, _ => .no
  | _, _ => .no
def cutD {α : Type} (xs : List α) (lo hi : Option Int) : List α := (xs.drop (HT.sIx xs.length 0 lo)).take (HT.sIx xs.length xs.length hi - HT.sIx xs.length 0 lo)
def slD (x : D) (lo hi : Option Int) (h : Hs) : R D := match x with
  | .tup xs => .ok (.tup (cutD xs lo hi)) h
  | .str s => if s.length ≤ sizeLine then .ok (.str (cutD s lo hi)) h else .no
  | .ob n => match h[n]? with
    | some (.lst xs) => .ok (.ob h.length) (h ++ [.lst (cutD xs lo hi)])
    | some (.scr xs) => .ok (.ob h.length) (h ++ [.lst ((cutD xs lo hi).map D.int)])
    | _ => .no
  | _ => .no
def optI : List D → Option (Option Int)
  | [] => some none
  | [.int i] => some (some i)
  | _ => none
/-- o[i] = v -/
def putD (o i v : D) (h : Hs) : Option Hs := match o with
  | .ob n => match h[n]?, i with
    | some (.lst xs), .int k => (ixN xs.length k).map fun j => h.set n (.lst (xs.set j v))
    | some (.dic false t kvs), k => if okK t kvs k && decide (kvs.length < sizeLine) then some (h.set n (.dic false t (kvPut kvs k v))) else none
    | _, _ => none
  | _ => none
def hasF (cl : List CI) (c : Nat) (f : String) : Bool := match cl[c]? with | some ci => ci.flds.contains f | none => false
def fldD (cl : List CI) (x : D) (f : String) (h : Hs) : R D := match x with
  | .ob n => match h[n]? with
    | some (.ins c fs) => if hasF cl c f then ofO (fs.lookup f) h else .no
    | _ => .no
  | _ => .no
def fput (f : String) (v : D) : List (String × D) → List (String × D)
  | [] => [(f, v)]
  | (g, x) :: r => if g = f then (g, v) :: r else (g, x) :: fput f v r
def fsetD (cl : List CI) (x : D) (f : String) (v : D) (h : Hs) : Option Hs := match x with
  | .ob n => match h[n]? with
    | some (.ins c fs) => if hasF cl c f && decide (fs.length < 900) then some (h.set n (.ins c (fput f v fs))) else none
    | _ => none
  | _ => none
/-- x op= y -/
def augD (o : Op) (x y : D) (h : Hs) : R D := match o, x, y with
  | .add, .int i, .int j => .ok (.int (i + j)) h
  | .sub, .int i, .int j => .ok (.int (i - j)) h
  | .add, .str s, .str t => if s.length + t.length ≤ sizeLine then .ok (.str (s ++ t)) h else .no
  | _, _, _ => .no
/-- a built-in value's method -/
def mtOf (x : D) (m : String) (h : Hs) : Option Mt := match x with
  | .ob n => match h[n]? with
    | some (.lst _) => if m = "append" then some .append else if m = "reverse" then some .reverse else if m = "extend" then some .extend else if m = "pop" then some .pop else if m = "insert" then some .insert else none
    | some (.dic false false _) => if m = "update" then some .update else none
    | _ => none
  | .str _ => if m = "isalnum" then some .isalnum else if m = "startswith" then some .startswith else if m = "find" then some .find else if m = "lower" then some .lower else if m = "join" then some .join else none
  | _ => none
/-- sep.join(texts) -/
def joinL (sep : List Char) : List (List Char) → List Char
  | [] => []
  | [x] => x
  | x :: y :: r => x ++ sep ++ joinL sep (y :: r)
def strsOf : List D → Option (List (List Char))
  | [] => some []
  | .str s :: r => (strsOf r).map (s :: ·)
  | _ => none
/-- d.update(e) -/
def kvMrg (ks ls : List (D × D)) : List (D × D) := ls.foldl (fun acc p => kvPut acc p.1 p.2) ks
def methD (k : Mt) (x : D) (xs : List D) (h : Hs) : R D := match k with
  | .append => match x, xs with
    | .ob n, [y] => match h[n]? with
      | some (.lst s) => if s.length < sizeLine then .ok .non (h.set n (.lst (s ++ [y]))) else .no
      | _ => .no
    | _, _ => .no
  | .insert => match x, xs with
    | .ob n, [.int i, y] => match h[n]? with
      | some (.lst s) => if s.length < sizeLine ∧ 0 ≤ i ∧ i < 2 ^ 62 then .ok .non (h.set n (.lst (s.take i.toNat ++ [y] ++ s.drop i.toNat))) else .no
      | _ => .no
    | _, _ => .no
  | .update => match x, xs with
    | .ob n, [.ob m] => match h[n]?, h[m]? with
      | some (.dic false false ks), some (.dic _ false ls) => if n ≠ m ∧ ks.length + ls.length ≤ sizeLine then .ok .non (h.set n (.dic false false (kvMrg ks ls))) else .no
      | _, _ => .no
    | _, _ => .no
  | .reverse => match x, xs with
    | .ob n, [] => match h[n]? with
      | some (.lst s) => .ok .non (h.set n (.lst s.reverse))
      | _ => .no
    | _, _ => .no
  | .extend => match x, xs with
    | .ob n, [.ob m] => match h[n]?, h[m]? with
      | some (.lst s), some (.lst t) => if s.length + t.length ≤ sizeLine then .ok .non (h.set n (.lst (s ++ t))) else .no
      | _, _ => .no
    | _, _ => .no
  | .pop => match x, xs with
    | .ob n, [] => match h[n]? with
      | some (.lst s) => match s[s.length - 1]? with
        | some y => .ok y (h.set n (.lst s.dropLast))
        | none => .no
      | _ => .no
    | _, _ => .no
  | .join => match x, xs with
    | .str sep, [.ob n] => match h[n]? with
      | some (.lst ys) => match strsOf ys with
        | some ss => if (ss.map List.length).sum + ss.length * sep.length ≤ 1000000 then .ok (.str (joinL sep ss)) h else .no
        | none => .no
      | _ => .no
    | _, _ => .no
  | .isalnum => match x, xs with
    | .str s, [] => .ok (.bl (Txt.isalnum (st s))) h
    | _, _ => .no
  | .startswith => match x, xs with
    | .str s, [.str p, .int i] => .ok (.bl (Txt.startswith3 (st s) (st p) i)) h
    | _, _ => .no
  | .find => match x, xs with
    | .str s, [.str p, .int i] => .ok (.int (Txt.find3 (st s) (st p) i)) h
    | _, _ => .no
  | .lower => match x, xs with
    | .str s, [] => if s.length ≤ 1000000 ∧ Txt.lower (st s) = st (s.map Char.toLower) then .ok (.str (s.map Char.toLower)) h else .no
    | _, _ => .no
  | _ => .no
def isIns (x : D) (h : Hs) : Option (Nat × List (String × D)) := match x with
  | .ob n => match h[n]? with
    | some (.ins c fs) => some (c, fs)
    | _ => none
  | _ => none
/-- a list, a dict: is it of the class -/
def isObB (h : Hs) (n : Nat) (l d : Bool) : R D := match h[n]? with
  | some (.lst _) => .ok (.bl l) h
  | some (.dic false _ _) => .ok (.bl d) h
  | _ => .no
def bltD (b : Bf) (xs : List D) (h : Hs) : R D := match b, xs with
  | .len, [.tup s] => .ok (.int s.length) h
  | .len, [.str s] => if s.length ≤ sizeLine then .ok (.int s.length) h else .no
  | .len, [.ob n] => match h[n]? with
    | some (.lst s) => .ok (.int s.length) h
    | some (.scr s) => .ok (.int s.length) h
    | some (.dic _ false s) => .ok (.int s.length) h
    | _ => .no
  | .abs, [.int i] => .ok (.int (if i < 0 then -i else i)) h
  | .int, [.int i] => .ok (.int i) h
  | .int, [.bl b] => .ok (.int (if b then 1 else 0)) h
  | .int, [.str s] => match PySem.intText? (st s) with
    | some n => if s.length ≤ 640 then .ok (.int n) h else .no
    | none => .no
  | .str, [.int i] => if i.natAbs.log2 < 1920 then .ok (.str (toString i).toList) h else .no
  | .str, [.str s] => .ok (.str s) h
  | .min2, [.int i, .int j] => .ok (.int (if j < i then j else i)) h
  | .max2, [.int i, .int j] => .ok (.int (if j > i then j else i)) h
  | .tuple, [.tup s] => .ok (.tup s) h
  | .tuple, [.ob n] => match h[n]? with
    | some (.lst s) => .ok (.tup s) h
    | _ => .no
  | .list, [.tup s] => .ok (.ob h.length) (h ++ [.lst s])
  | .list, [.ob n] => match h[n]? with
    | some (.lst s) => .ok (.ob h.length) (h ++ [.lst s])
    | some (.scr s) => .ok (.ob h.length) (h ++ [.lst (s.map D.int)])
    | some (.dic false false kvs) => .ok (.ob h.length) (h ++ [.lst (kvs.map (·.1))])
    | _ => .no
  | .dict, [.ob n] => match h[n]? with
    | some (.dic _ false kvs) => .ok (.ob h.length) (h ++ [.dic false false kvs])
    | _ => .no
  | .isTup, [.tup _] => .ok (.bl true) h
  | .isTup, [.non] => .ok (.bl false) h
  | .isTup, [.bl _] => .ok (.bl false) h
  | .isTup, [.int _] => .ok (.bl false) h
  | .isTup, [.str _] => .ok (.bl false) h
  | .isStr, [.tup _] => .ok (.bl false) h
  | .isStr, [.non] => .ok (.bl false) h
  | .isStr, [.bl _] => .ok (.bl false) h
  | .isStr, [.int _] => .ok (.bl false) h
  | .isStr, [.str _] => .ok (.bl true) h
  | .isBool, [.tup _] => .ok (.bl false) h
  | .isBool, [.non] => .ok (.bl false) h
  | .isBool, [.bl _] => .ok (.bl true) h
  | .isBool, [.int _] => .ok (.bl false) h
  | .isBool, [.str _] => .ok (.bl false) h
  | .isTup, [.ob n] => isObB h n false false
  | .isStr, [.ob n] => isObB h n false false
  | .isBool, [.ob n] => isObB h n false false
  | .isList, [.ob n] => isObB h n true false
  | .isList, [.tup _] => .ok (.bl false) h
  | .isList, [.non] => .ok (.bl false) h
  | .isList, [.bl _] => .ok (.bl false) h
  | .isList, [.int _] => .ok (.bl false) h
  | .isList, [.str _] => .ok (.bl false) h
  | .isInt, [.tup _] => .ok (.bl false) h
  | .isInt, [.non] => .ok (.bl false) h
  | .isInt, [.bl _] => .ok (.bl true) h
  | .isInt, [.int _] => .ok (.bl true) h
  | .isInt, [.str _] => .ok (.bl false) h
  | .repr, [.tup xs] => if rpOk (.tup xs) && decide (dep (.tup xs) ≤ 64) && decide ((rp (.tup xs)).length ≤ sizeLine) then .ok (.str (rp (.tup xs))) h else .no
  | _, _ => .no
/-- .. where the script may be one of the module's own objects -/
def bltC (W : Wd) (b : Bf) (xs : List D) (h : Hs) : R D := match b with
  | .list => match xs with
    | [.con g] => if g = W.cons.length then .ok (.ob h.length) (h ++ [.lst (W.scr.map D.int)]) else match W.cons[g]? with
      | some ys => .ok (.ob h.length) (h ++ [.lst ys])
      | none => .no
    | xs => bltD .list xs h
  | b => bltD b xs h
/-- in, not in -/
def inD (cs : List (List D)) (x y : D) (h : Hs) : Option Bool := match y with
  | .con g => match cs[g]? with
    | some ys => if flat x && ys.all flat then some (inL x ys) else none
    | none => none
  | .tup ys => if flat x && ys.all flat then some (inL x ys) else none
  | .ob n => match h[n]? with
    | some (.lst ys) => if flat x && ys.all flat then some (inL x ys) else none
    | some (.dic _ t kvs) => if okK t kvs x then some (kvGet kvs x).isSome else none
    | _ => none
  | .str s => match x with
    | .str [c] => some (s.contains c)
    | _ => none
  | _ => none
/-- == of two dicts -/
def dicB (x y : D) (h : Hs) : Option (List (D × D) × List (D × D)) := match x, y with
  | .ob n, .ob m => match h[n]?, h[m]? with
    | some (.dic _ false ks), some (.dic _ false ls) => some (ks, ls)
    | _, _ => none
  | _, _ => none
def hitKV (ls : List (D × D)) (p : D × D) : Bool := match kvGet ls p.1 with | some w => eqv p.2 w | none => false
def eqKV (ks ls : List (D × D)) : Option Bool := if (ks.all fun p => flat p.2) && ls.all (fun p => flat p.2) then some (ks.length == ls.length && ks.all (hitKV ls)) else none
def cmpA (cs : List (List D)) (o : Cp) (x y : D) (h : Hs) : R D := match o with
  | .eq => match dicB x y h with
    | some q => (ofO (eqKV q.1 q.2) h).bind fun b h => .ok (.bl b) h
    | none => cmpD .eq x y h
  | .ne => match dicB x y h with
    | some q => (ofO (eqKV q.1 q.2) h).bind fun b h => .ok (.bl (!b)) h
    | none => cmpD .ne x y h
  | .in_ => (ofO (inD cs x y h) h).bind fun b h => .ok (.bl b) h
  | .nin => (ofO (inD cs x y h) h).bind fun b h => .ok (.bl (!b)) h
  | .is_ => match y with | .non => .ok (.bl (match x with | .non => true | _ => false)) h | .bl b => (match x with | .bl a => .ok (.bl (decide (a = b))) h | _ => .no) | _ => .no
  | .isn => match y with | .non => .ok (.bl (match x with | .non => false | _ => true)) h | .bl b => (match x with | .bl a => .ok (.bl (!decide (a = b))) h | _ => .no) | _ => .no
  | o => cmpD o x y h

/-! ## what is walked -/
/-- what a loop leans on: an object that stays; a dict that is locked -/
inductive Gd where | none | keep (n : Nat) (mo : MO) | lock (n : Nat) (t : Bool) (kvs : List (D × D))
def same (g : Gd) (h : Hs) : Prop := match g with
  | .none => True
  | .keep n mo => h[n]? = some mo
  | .lock n t kvs => h[n]? = some (.dic true t kvs)
def endG (g : Gd) (h : Hs) : Hs := match g with
  | .lock n t kvs => h.set n (.dic false t kvs)
  | _ => h
/-- the items, what it leans on, the heap -/
def itemsI (cs : List (List D)) (k : Ik) (xs : List D) (h : Hs) : Option (List D × Gd × Hs) := match k, xs with
  | .seq, [.tup s] => some (s, .none, h)
  | .seq, [.con g] => (cs[g]?).map fun ys => (ys, .none, h)
  | .seq, [.ob n] => match h[n]? with
    | some (.lst s) => some (s, .keep n (.lst s), h)
    | some (.scr s) => some (s.map D.int, .keep n (.scr s), h)
    | some (.dic true false kvs) => some (kvs.map (·.1), .keep n (.dic true false kvs), h)
    | some (.dic false false kvs) => some (kvs.map (·.1), .lock n false kvs, h.set n (.dic true false kvs))
    | _ => none
  | .rng1, [.int j] => if -(2 ^ 62) ≤ j ∧ j < 2 ^ 62 then some ((List.range j.toNat).map fun (i : Nat) => D.int (0 + (i : Int)), .none, h) else none
  | .rng2, [.int i, .int j] => if -(2 ^ 62) ≤ i ∧ i < 2 ^ 62 ∧ -(2 ^ 62) ≤ j ∧ j < 2 ^ 62 then some ((List.range (j - i).toNat).map fun (k : Nat) => D.int (i + (k : Int)), .none, h) else none
  | _, _ => none
def bindT (t : Tg) (d : D) (σ : Sg) : Option Sg := match t with
  | .nm i => some (σ.set i (some d))
  | .tp is => match d with
    | .tup ds => if ds.length = is.length then some ((is.zip ds).foldl (fun σ p => σ.set p.1 (some p.2)) σ) else none
    | _ => none
def wipeI (σ : Sg) : List Nat → Sg
  | [] => σ
  | v :: vs => (wipeI σ vs).set v none

open Classical in
noncomputable def lcI (g : Gd) (turn : D → Hs → R (Option D)) : List D → List D → Hs → R (List D)
  | [], acc, h => if same g h then .ok acc (endG g h) else .no
  | d :: ds, acc, h => if same g h then (turn d h).bind fun o h => match o with
    | some x => if acc.length < sizeLine then lcI g turn ds (acc ++ [x]) h else .no
    | none => lcI g turn ds acc h
    else .no
open Classical in
noncomputable def forI (g : Gd) (turn : D → Sg → Hs → RS) : List D → Sg → Hs → RS
  | [], σ, h => if same g h then .ok (.nx σ) (endG g h) else .no
  | d :: ds, σ, h => if same g h then match turn d σ h with
    | .ok (.nx σ) h => forI g turn ds σ h
    | .ok (.ct σ) h => forI g turn ds σ h
    | .ok (.bk σ) h => if same g h then .ok (.nx σ) (endG g h) else .no
    | .ok (.rt d) h => if same g h then .ok (.rt d) (endG g h) else .no
    | r => r
    else .no
def whileI (c : Sg → Hs → R Bool) (b : Sg → Hs → RS) : Nat → Sg → Hs → RS
  | 0, _, _ => .no
  | n + 1, σ, h => (c σ h).stm σ fun t h => if t then match b σ h with
    | .ok (.nx σ) h => whileI c b n σ h
    | .ok (.ct σ) h => whileI c b n σ h
    | .ok (.bk σ) h => .ok (.nx σ) h
    | r => r
    else .ok (.nx σ) h

/-- a comprehension's test -/
def cdB (ts : List D) (h : Hs) : R Bool := match ts with
  | [] => .ok true h
  | [t] => truthR t h
  | _ => .no
/-- a turn of a comprehension -/
def lcTurn (bt : D → Option Sg) (cd : Sg → Hs → R Bool) (el : Sg → Hs → R D) (d : D) (h : Hs) : R (Option D) :=
  ((ofO (bt d) h).bind fun σ1 h => (cd σ1 h).bind fun b h => if b then (el σ1 h).bind fun x h => .ok (some x) h else .ok none h).shut
def lcEnd (acc : List D) (h : Hs) : R D := .ok (.ob h.length) (h ++ [.lst acc])
abbrev CF := Nat → List D → Hs → R D
abbrev CXI := Option (Nat × List (String × D))
section
variable (W : Wd) (cf : CF) (cx : CXI)
mutual
noncomputable def evalE : E → Sg → Hs → R D
  | .var i, σ, h => match σ[i]? with | some (some d) => .ok d h | _ => .no
  | .cst d, _, h => .ok d h
  | .glb g, _, h => .ok (.con g) h
  | .gst _ s, _, h => .ok (.str s) h
  | .gni _ i, _, h => .ok (.int i) h
  | .fnv f, _, h => .ok (.fn f) h
  | .bin o a b, σ, h => (evalE a σ h).bind fun x h => (evalE b σ h).bind fun y h => opD o x y h
  | .neg a, σ, h => (evalE a σ h).bind fun x h => match x with | .int i => .ok (.int (-i)) h | _ => .no
  | .cmp o a b, σ, h => (evalE a σ h).bind fun x h => (evalE b σ h).bind fun y h => cmpA W.cons o x y h
  | .chn o o' a b c, σ, h => (evalE a σ h).bind fun x h => (evalE b σ h).bind fun y h => (cmpA W.cons o x y h).bind fun z h => match z with
    | .bl true => (evalE c σ h).bind fun w h => cmpA W.cons o' y w h
    | .bl false => .ok (.bl false) h
    | _ => .no
  | .and a b, σ, h => (evalE a σ h).bind fun x h => (truthR x h).bind fun t h => if t then evalE b σ h else .ok x h
  | .or a b, σ, h => (evalE a σ h).bind fun x h => (truthR x h).bind fun t h => if t then .ok x h else evalE b σ h
  | .not a, σ, h => (evalE a σ h).bind fun x h => (truthR x h).bind fun t h => .ok (.bl (!t)) h
  | .ife c a b, σ, h => (evalE c σ h).bind fun x h => (truthR x h).bind fun t h => if t then evalE a σ h else evalE b σ h
  | .tup es, σ, h => (evalEs es σ h).bind fun xs h => if xs.length ≤ sizeLine then .ok (.tup xs) h else .no
  | .lst es, σ, h => (evalEs es σ h).bind fun xs h => if xs.length ≤ sizeLine then .ok (.ob h.length) (h ++ [.lst xs]) else .no
  | .dic t ks vs, σ, h => match ks, vs with
    | [], [] => .ok (.ob h.length) (h ++ [.dic false t []])
    | _, _ => .no
  | .ix a i, σ, h => (evalE a σ h).bind fun x h => (evalE i σ h).bind fun y h => ixD W.cons x y h
  | .slc a lo hi, σ, h => (evalE a σ h).bind fun x h => (evalEs lo σ h).bind fun l h => (ofO (optI l) h).bind fun l h => (evalEs hi σ h).bind fun u h => (ofO (optI u) h).bind fun u h => slD x l u h
  | .back a, σ, h => (evalE a σ h).bind fun x h => match x with
    | .ob n => match h[n]? with
      | some (.lst xs) => .ok (.ob h.length) (h ++ [.lst xs.reverse])
      | _ => .no
    | _ => .no
  | .fld a f, σ, h => (evalE a σ h).bind fun x h => fldD W.cls x f h
  | .cal f es, σ, h => (evalEs es σ h).bind fun xs h => cf f xs h
  | .cav i es, σ, h => match σ[i]? with
    | some (some (.fn f)) => (evalEs es σ h).bind fun xs h => cf f xs h
    | _ => .no
  | .new c es, σ, h => (evalEs es σ h).bind fun xs h => match (W.cls[c]?).bind (·.ini) with
    | some f => (cf f (.ob h.length :: xs) (h ++ [.ins c []])).bind fun r h' => match r with | .non => .ok (.ob h.length) h' | _ => .no
    | none => .no
  | .met o m es, σ, h => (evalE o σ h).bind fun x h => match isIns x h with
    | some (c, fs) => match (W.cls[c]?).bind fun ci => ci.meths.lookup m with
      | some f => if (fs.lookup m).isNone then (evalEs es σ h).bind fun xs h => cf f (x :: xs) h else .no
      | none => .no
    | none => match mtOf x m h with
      | some k => (evalEs es σ h).bind fun xs h => methD k x xs h
      | none => .no
  | .blt b es, σ, h => (evalEs es σ h).bind fun xs h => bltC W b xs h
  | .lc own tg k its cd el, σ, h => (evalEs its σ h).bind fun xs h => (ofO (itemsI W.cons k xs h) h).bind fun ig h =>
    (lcI ig.2.1 (lcTurn (fun d => bindT tg d (wipeI σ own)) (fun σ1 h => (evalEs cd σ1 h).bind cdB) (fun σ1 h => evalE el σ1 h)) ig.1 [] ig.2.2).bind lcEnd
  | .exf i f, σ, h => match cx, σ[i]? with
    | some (c, fs), some none => if f ∈ W.exf c then ofO (fs.lookup f) h else .no
    | _, _ => .no
  | .cml v _ es cs, σ, h => (evalEs es σ h).bind fun xs h => (evalEs cs σ h).bind fun ys h => cf v (xs ++ ys) h
  | .mml c o m v _ cs, σ, h => (evalE o σ h).bind fun x h => match isIns x h with
    | some (c', fs) => if c' = c ∧ (fs.lookup m).isNone = true then (evalEs cs σ h).bind fun ys h => cf v (x :: ys) h else .no
    | none => .no
  | .cvl i es, σ, h => match cx, σ[i]? with
    | some (j, fs), some none => (evalEs es σ h).bind fun xs h => cf j (fs.map (·.2) ++ xs) h
    | _, _ => .no
noncomputable def evalEs : List E → Sg → Hs → R (List D)
  | [], _, h => .ok [] h
  | e :: es, σ, h => (evalE e σ h).bind fun x h => (evalEs es σ h).bind fun xs h => .ok (x :: xs) h
end
end

/-- the name of a clause -/
def offI (o : Option Nat) (σ : Sg) : Sg := match o with | some i => σ.set i none | none => σ
def RS.offs (o : Option Nat) (r : RS) : RS := match r with
  | .ok (.nx σ) h => .ok (.nx (offI o σ)) h
  | .ok (.bk σ) h => .ok (.bk (offI o σ)) h
  | .ok (.ct σ) h => .ok (.ct (offI o σ)) h
  | .ok (.rt d) h => .ok (.rt d) h
  | _ => .no
@[simp] theorem RS.offs_nx (o σ h) : (RS.ok (.nx σ) h).offs o = .ok (.nx (offI o σ)) h := rfl
@[simp] theorem RS.offs_rt (o d h) : (RS.ok (.rt d) h).offs o = .ok (.rt d) h := rfl
section
variable (W : Wd) (L : Nat) (cf : CF)
def isSomeB {α : Type} (o : Option α) : Bool := o.isSome
mutual
noncomputable def evalS (cx : CXI) : S → Sg → Hs → RS
  | .set i e, σ, h => (evalE W cf cx e σ h).stm σ fun x h => .ok (.nx (σ.set i (some x))) h
  | .setT is e, σ, h => (evalE W cf cx e σ h).stm σ fun x h => match bindT (.tp is) x σ with | some σ => .ok (.nx σ) h | none => .no
  | .put o i e, σ, h => (evalE W cf cx e σ h).stm σ fun v h => (evalE W cf cx o σ h).stm σ fun x h => (evalE W cf cx i σ h).stm σ fun y h => match putD x y v h with
    | some h => .ok (.nx σ) h
    | none => .no
  | .fset o f e, σ, h => (evalE W cf cx e σ h).stm σ fun v h => (evalE W cf cx o σ h).stm σ fun x h => match fsetD W.cls x f v h with
    | some h => .ok (.nx σ) h
    | none => .no
  | .aug i o e, σ, h => match σ[i]? with
    | some (some x) => (evalE W cf cx e σ h).stm σ fun y h => (augD o x y h).stm σ fun z h => .ok (.nx (σ.set i (some z))) h
    | _ => .no
  | .faug a f o e, σ, h => (evalE W cf cx a σ h).stm σ fun x h => match isIns x h with
    | some (c, fs) => if hasF W.cls c f then match fs.lookup f with
      | some y => (evalE W cf cx e σ h).stm σ fun z h => (augD o y z h).stm σ fun w h => match isIns x h, fsetD W.cls x f w h with
        | some (c', _), some h => if c' = c then .ok (.nx σ) h else .no
        | _, _ => .no
      | none => .no
      else .no
    | none => .no
  | .expr e, σ, h => (evalE W cf cx e σ h).stm σ fun _ h => .ok (.nx σ) h
  | .ret e, σ, h => (evalE W cf cx e σ h).stm σ fun x h => .ok (.rt x) h
  | .retN, _, h => .ok (.rt .non) h
  | .ife c a b, σ, h => (evalE W cf cx c σ h).stm σ fun x h => (truthR x h).stm σ fun t h => if t then evalB cx a σ h else evalB cx b σ h
  | .whl c b, σ, h => whileI (fun σ h => (evalE W cf cx c σ h).bind fun x h => truthR x h) (evalB cx b) L σ h
  | .for_ tg k its b, σ, h => (evalEs W cf cx its σ h).stm σ fun xs h => (ofO (itemsI W.cons k xs h) h).stm σ fun ig h =>
    forI ig.2.1 (fun d σ h => match bindT tg d σ with | some σ => evalB cx b σ h | none => .no) ig.1 σ ig.2.2
  | .raise c es, σ, h => (evalEs W cf cx es σ h).stm σ fun xs h => if 0 < (W.exf c).length ∧ xs.length = (W.exf c).length ∧ xs.length ≤ 900 then .exc c ((W.exf c).zip xs).reverse σ h else .no
  | .try_ b hs, σ, h => match evalB cx b σ h with
    | .exc c fs σ1 h1 => if 0 < (W.exf c).length then evalH c fs hs σ1 h1 else .no
    | r => r
  | .brk, σ, h => .ok (.bk σ) h
  | .cnt, σ, h => .ok (.ct σ) h
  | .pass, σ, h => .ok (.nx σ) h
  | .stuck, _, _ => .no
noncomputable def evalB (cx : CXI) : List S → Sg → Hs → RS
  | [], σ, h => .ok (.nx σ) h
  | s :: r, σ, h => (evalS cx s σ h).then fun σ h => evalB cx r σ h
/-- the clauses, one after the other -/
noncomputable def evalH (c : Nat) (fs : List (String × D)) : List (Nat × Option Nat × List S) → Sg → Hs → RS
  | [], σ, h => .exc c fs σ h
  | (k, o, b) :: r, σ, h => if W.isa c k then (evalB (some (c, fs)) b (offI o σ) h).offs o else evalH c fs r σ h
end
end
def RS.fin (r : RS) : R D := match r with
  | .ok (.nx _) h => .ok .non h
  | .ok (.rt d) h => .ok d h
  | .exc c fs _ h => .exc c fs h
  | _ => .no
@[simp] theorem RS.fin_nx (σ h) : (RS.ok (.nx σ) h).fin = .ok .non h := rfl
@[simp] theorem RS.fin_rt (d h) : (RS.ok (.rt d) h).fin = .ok d h := rfl
@[simp] theorem RS.fin_exc (c fs σ h) : (RS.exc c fs σ h).fin = .exc c fs h := rfl
def start (ns : Nat) (ds : List D) : Sg := ds.map some ++ List.replicate (ns - ds.length) none
/-- what a def knows of the lambda that it got -/
def FI.cx (fi : FI) (ds : List D) : CXI := match fi.lm with
  | none => none
  | some q => some (q.2.1, (ds.drop q.1).map fun d => ("", d))
def FI.st (fi : FI) (ds : List D) : Sg := match fi.lm with
  | none => start fi.ns ds
  | some q => start fi.ns (ds.take q.1)
noncomputable def callF (W : Wd) (L : Nat) : Nat → CF
  | 0, _, _, _ => .no
  | n + 1, f, ds, h => match W.fns[f]? with
    | some fi => if ds.length = fi.np then (evalB W L (callF W L n) (fi.cx ds) fi.body (fi.st ds) h).fin else .no
    | none => .no
end Rf
end

section
namespace Rf
open PySem PySem.Spec PyProof.Rows L2

structure Mx where
  W : Wd
  fa : Nat → Option Addr
  ca : Nat → Option Addr
  ga : Nat → Option Addr
  cx : CXI := none
  xd : Option (Addr × List (String × D)) := none
  ex : Option (Nat × Addr) := none
  tb : List (Addr × Str) := []
  lc : Option (Addr × Str × List Addr) := none
  /-- the defs to which lambdas are given -/
  va : Nat → Option Addr := fun _ => none
@[reducible] def Mx.g (M : Mx) (K : PySem.W.Frag) : Gx := ⟨M.W, K, M.fa, M.ca, M.ga, M.xd, M.ex, M.tb, M.lc⟩

/-- what is asked of an outcome -/
def post {α β : Type} (G : Gx) (Wx : WX) (Rl : List Addr → Hp → α → β → Prop) (as : List Addr) (H : Hp) (σ : L2.St) (r : R α) (Q : β → Hp → Prop) : Prop :=
  match r with
  | .ok d h' => ∀ v as' H', Ext as H as' H' → HI G h' as' H' → Rl as' H' d v → Q v H'
  | .exc c fs h' => ∀ C dx vs as' H', Ext as H as' H' → HI G h' as' H' → G.ca c = some C → H' dx = some (.xd vs) → RepF G as' H' fs vs → Wx (.ref C) (some dx) σ H'
  | .no => False
abbrev rB : List Addr → Hp → Bool → Bool → Prop := fun _ _ d v => d = v
section
variable {α β γ δ : Type} {G : Gx} {Wx : WX} {Rl : List Addr → Hp → α → β → Prop} {Rm : List Addr → Hp → γ → δ → Prop} {as as' : List Addr} {H H' : Hp} {σ : L2.St} {r : R α}
theorem post.mono {Q : β → Hp → Prop} (x : Ext as H as' H') (p : post G Wx Rl as H σ r Q) : post G Wx Rl as' H' σ r Q := by
  cases r with
  | ok d h => exact fun v as2 H2 e => p v as2 H2 (x.trans e)
  | exc c fs h => exact fun C dx vs as2 H2 e => p C dx vs as2 H2 (x.trans e)
  | no => exact p
theorem post.bind {f : α → Hs → R γ} {Q : δ → Hp → Prop} (p : post G Wx Rm as H σ (r.bind f) Q) :
    post G Wx Rl as H σ r fun v H1 => ∃ d h1 as1, r = .ok d h1 ∧ Ext as H as1 H1 ∧ HI G h1 as1 H1 ∧ Rl as1 H1 d v ∧ post G Wx Rm as1 H1 σ (f d h1) Q := by
  cases r with
  | ok d h => exact fun v as2 H2 e i q => ⟨d, h, as2, rfl, e, i, q, p.mono e⟩
  | exc c fs h => exact p
  | no => exact p
theorem post.ofO {o : Option α} {h : Hs} {f : α → Hs → R γ} {Q : δ → Hp → Prop} (p : post G Wx Rm as H σ ((ofO o h).bind f) Q) : ∃ a, o = some a ∧ post G Wx Rm as H σ (f a h) Q := by
  cases o with
  | none => exact False.elim p
  | some a => exact ⟨a, rfl, p⟩
end
/-- readings -/
def tE (G : Gx) (Wx : WX) (ev : Sg → Hs → R D) : TE := fun σ H Q => ∃ σI h as, SL G σI as H σ ∧ HI G h as H ∧ post G Wx (Rep G) as H σ (ev σI h) Q
def tEs (G : Gx) (Wx : WX) (ev : Sg → Hs → R (List D)) : TA := fun σ H Q => ∃ σI h as, SL G σI as H σ ∧ HI G h as H ∧ post G Wx (Reps G) as H σ (ev σI h) Q
def tT (G : Gx) (Wx : WX) (ev : Sg → Hs → R D) : TT := fun σ H Q => ∃ σI h as, SL G σI as H σ ∧ HI G h as H ∧ post G Wx rB as H σ ((ev σI h).bind truthR) Q
section
variable {X : Cx} {M : Mx} {Wx : WX} {pins : List (Addr × Obj)} {s : Shared} {σ : L2.St} {H : Hp}
theorem RelV.str_of {z : Str} {u : Value} (r : RelV (.str z) u) : ∃ t, u = .str z t := r
/-- x op y -/
theorem opD_ok {o : Op} {op : Operator} (ho : (o, op) ∈ [(Op.add, Operator.Add), (.sub, .Sub), (.mul, .Mult), (.fdiv, .FloorDiv), (.mod, .Mod)]) {x y : V} {v u : Value} {dx dy : D} {h : Hs} {as : List Addr} {Q : VK} (I : Inv X pins σ H s) (rx : RelV x v) (ry : RelV y u)
    (hi : HI (M.g X.K) h as H) (r1 : Rep (M.g X.K) as H dx x) (r2 : Rep (M.g X.K) as H dy y) (p : post (M.g X.K) Wx (Rep (M.g X.K)) as H σ (opD o dx dy h) Q) :
    wpAny (model X.prog X.w) X.A (binaryOp op v u) (EP X pins σ Q) X.xe s := by
  simp only [List.mem_cons, List.not_mem_nil, or_false, Prod.mk.injEq] at ho
  have int2 : ∀ {i j : Int} {g : Int → Int → Int} {C : Int → Int → Prop}, OpR X (binaryOp op) (rI C fun i j => .int (g i j)) → dx = .int i → dy = .int j → C i j → opD o dx dy h = .ok (.int (g i j)) h → wpAny (model X.prog X.w) X.A (binaryOp op v u) (EP X pins σ Q) X.xe s := by
    intro i j g C hop e1 e2 hc e3
    subst e1 e2
    simp only [Rep] at r1 r2
    subst r1 r2
    rw [e3] at p
    exact hop pins s σ H _ _ v u Q I rx ry ⟨i, j, rfl, rfl, hc, p _ as H Ext.refl hi rfl⟩
  cases dx with
  | int i =>
    cases dy with
    | int j =>
      rcases ho with ⟨rfl, rfl⟩ | ⟨rfl, rfl⟩ | ⟨rfl, rfl⟩ | ⟨rfl, rfl⟩ | ⟨rfl, rfl⟩
      · exact int2 (C := fun _ _ => True) (g := fun i j => i + j) (fun pins s σ H x y v u Q I a b ⟨i, j, e1, e2, _, q⟩ => op_add pins s σ H x y v u Q I a b ⟨i, j, e1, e2, q⟩) rfl rfl trivial rfl
      · exact int2 (C := fun _ _ => True) (g := fun i j => i - j) (fun pins s σ H x y v u Q I a b ⟨i, j, e1, e2, _, q⟩ => op_sub pins s σ H x y v u Q I a b ⟨i, j, e1, e2, q⟩) rfl rfl trivial rfl
      · by_cases hc : (-(2 ^ 64) < i ∧ i < 2 ^ 64) ∨ (-(2 ^ 64) < j ∧ j < 2 ^ 64)
        · exact int2 op_mul rfl rfl hc (by simp only [opD, if_pos hc])
        · simp only [opD, if_neg hc] at p; exact p.elim
      · by_cases hc : j ≠ 0 ∧ j.natAbs < 1073741824
        · exact int2 op_fdivN rfl rfl hc (by simp only [opD, if_pos hc])
        · simp only [opD, if_neg hc] at p; exact p.elim
      · by_cases hc : j ≠ 0
        · exact int2 op_modN rfl rfl hc (by simp only [opD, if_pos hc])
        · simp only [opD, if_neg hc] at p; exact p.elim
    | _ => rcases ho with ⟨rfl, rfl⟩ | ⟨rfl, rfl⟩ | ⟨rfl, rfl⟩ | ⟨rfl, rfl⟩ | ⟨rfl, rfl⟩ <;> exact p.elim
  | str z =>
    cases dy with
    | str z' =>
      rcases ho with ⟨rfl, rfl⟩ | ⟨rfl, rfl⟩ | ⟨rfl, rfl⟩ | ⟨rfl, rfl⟩ | ⟨rfl, rfl⟩
      · simp only [Rep] at r1 r2
        subst r1 r2
        by_cases hc : z.length + z'.length ≤ sizeLine
        · simp only [opD, if_pos hc] at p
          refine op_add_str pins s σ H _ _ v u Q I rx ry ⟨_, _, rfl, rfl, by simpa [st, Str.length] using hc, ?_⟩
          refine p _ as H Ext.refl hi ?_
          simp only [Rep]
          show V.str ⟨(st z).cps ++ (st z').cps⟩ = _
          simp [st]
        · simp only [opD, if_neg hc] at p; exact p.elim
      all_goals exact p.elim
    | int k =>
      rcases ho with ⟨rfl, rfl⟩ | ⟨rfl, rfl⟩ | ⟨rfl, rfl⟩ | ⟨rfl, rfl⟩ | ⟨rfl, rfl⟩
      · exact p.elim
      · exact p.elim
      · simp only [Rep] at r1 r2
        subst r1 r2
        by_cases hc : 1 ≤ k ∧ k < 1000000 ∧ z ≠ [] ∧ z.length * k.toNat ≤ 1000000
        · simp only [opD, if_pos hc] at p
          obtain ⟨c1, c2, c3, c4⟩ := hc
          obtain ⟨t, rfl⟩ := rx
          obtain ⟨t', rfl⟩ := ry
          have zl : (st z).length = z.length := by simp [st, Str.length]
          have zp : 0 < z.length := List.length_pos_iff.mpr c3
          have tl : Builtin.Str.tooLong ((st z).length * k.toNat) = false := by
            rw [zl]
            have e : sizeLine = 16777216 := rfl
            exact decide_eq_false (by omega)
          refine PySem.P.mul_str (by rw [decide_eq_false (by omega), decide_eq_false (by omega)]; rfl) (fun _ _ => ?_) (fun _ _ => tl) ?_
          · rw [zl]
            have : ((z.length : Int)) ≤ 1000000 := by
              have : z.length * 1 ≤ z.length * k.toNat := Nat.mul_le_mul_left _ (by omega)
              omega
            have h2 : (1000000 : Int) ≤ (2 ^ 63 - 1) / k := by
              rw [Int.le_ediv_iff_mul_le (by omega)]; omega
            omega
          · by_cases k1 : k = 1
            · subst k1
              rw [if_neg (by omega), if_pos (by simp)]
              refine ⟨.str (st z), H, I, ⟨_, rfl⟩, p _ as H Ext.refl hi ?_⟩
              simp only [Rep]
              simp
            rw [if_neg (by omega), if_neg]
            · refine ⟨fits_reps tl, ⟨.str ⟨(List.replicate k.toNat (st z).cps).foldl (· ++ ·) #[]⟩, H, I.tok _, ⟨_, rfl⟩, p _ as H Ext.refl hi ?_⟩⟩
              simp only [Rep]
              have fl : ∀ (n : Nat) (acc : List Nat), (List.replicate n (st z).cps).foldl (· ++ ·) acc.toArray = (acc ++ ((List.replicate n z).flatten).map Char.toNat).toArray := by
                intro n
                induction n with
                | zero => intro acc; simp
                | succ n ih =>
                  intro acc
                  rw [List.replicate_succ, List.foldl_cons]
                  have e : acc.toArray ++ (st z).cps = (acc ++ z.map Char.toNat).toArray := by simp [st]
                  rw [e, ih]
                  simp [List.replicate_succ]
              have := fl k.toNat []
              simp only [List.nil_append] at this
              show V.str ⟨_⟩ = V.str (st _)
              rw [this]; rfl
            · rw [zl]
              have : (k == 1) = false := by simp; omega
              have h2 : (z.length == 0) = false := by simp; exact c3
              rw [this, h2]; decide
        · simp only [opD, if_neg hc] at p; exact p.elim
      · exact p.elim
      · exact p.elim
    | _ => rcases ho with ⟨rfl, rfl⟩ | ⟨rfl, rfl⟩ | ⟨rfl, rfl⟩ | ⟨rfl, rfl⟩ | ⟨rfl, rfl⟩ <;> exact p.elim
  | tup xs =>
    cases dy with
    | tup ys =>
      rcases ho with ⟨rfl, rfl⟩ | ⟨rfl, rfl⟩ | ⟨rfl, rfl⟩ | ⟨rfl, rfl⟩ | ⟨rfl, rfl⟩
      · simp only [Rep] at r1 r2
        obtain ⟨a, vs, rfl, sa, ra⟩ := r1
        obtain ⟨b, ws, rfl, sb, rb⟩ := r2
        by_cases hc : xs.length + ys.length ≤ sizeLine
        · simp only [opD, if_pos hc] at p
          refine op_catA pins s σ H _ _ v u Q I rx ry ⟨a, b, vs, ws, rfl, rfl, SqT.of sa, SqT.of sb, by rw [← ra.length, ← rb.length]; exact hc, fun e => ?_, fun _ e => ?_, fun _ e q hq => ?_⟩
          · refine p _ as H Ext.refl hi ?_
            obtain rfl := ra.nil_iff.mpr e
            simp only [Rep, List.nil_append]
            exact ⟨b, ws, rfl, sb, rb⟩
          · refine p _ as H Ext.refl hi ?_
            obtain rfl := rb.nil_iff.mpr e
            simp only [Rep, List.append_nil]
            exact ⟨a, vs, rfl, sa, ra⟩
          · refine p _ as _ (ext_tup hq) (hi.other hq) ?_
            simp only [Rep]
            exact ⟨q, _, rfl, upd_same, Reps.append (ra.mono (ext_tup hq)) (rb.mono (ext_tup hq))⟩
        · simp only [opD, if_neg hc] at p; exact p.elim
      all_goals exact p.elim
    | _ => rcases ho with ⟨rfl, rfl⟩ | ⟨rfl, rfl⟩ | ⟨rfl, rfl⟩ | ⟨rfl, rfl⟩ | ⟨rfl, rfl⟩ <;> exact p.elim
  | ob n =>
    cases dy with
    | ob m =>
      rcases ho with ⟨rfl, rfl⟩ | ⟨rfl, rfl⟩ | ⟨rfl, rfl⟩ | ⟨rfl, rfl⟩ | ⟨rfl, rfl⟩
      · simp only [Rep] at r1 r2
        obtain ⟨a, rfl, ea⟩ := r1
        obtain ⟨b, rfl, eb⟩ := r2
        simp only [opD] at p
        split at p
        · rename_i xs ys e1 e2
          by_cases hc : xs.length + ys.length ≤ sizeLine
          · rw [if_pos hc] at p
            obtain ⟨vs, h1, rv⟩ := hi.ob n _ a e1 ea
            obtain ⟨ws, h2, rw'⟩ := hi.ob m _ b e2 eb
            refine op_cat pins s σ H _ _ v u Q I rx ry ⟨a, b, vs, ws, rfl, rfl, h1, h2, by rw [← rv.length, ← rw'.length]; exact hc, fun q hq => ?_⟩
            refine p _ (as ++ [q]) _ (ext_new hq) (hi.new hq ⟨_, upd_same, Reps.append (rv.mono (ext_new hq)) (rw'.mono (ext_new hq))⟩) ?_
            simp only [Rep]
            exact ⟨q, rfl, by rw [← hi.len]; simp⟩
          · rw [if_neg hc] at p; exact p.elim
        · exact p.elim
      all_goals exact p.elim
    | _ => rcases ho with ⟨rfl, rfl⟩ | ⟨rfl, rfl⟩ | ⟨rfl, rfl⟩ | ⟨rfl, rfl⟩ | ⟨rfl, rfl⟩ <;> exact p.elim
  | _ => rcases ho with ⟨rfl, rfl⟩ | ⟨rfl, rfl⟩ | ⟨rfl, rfl⟩ | ⟨rfl, rfl⟩ | ⟨rfl, rfl⟩ <;> exact p.elim
end
end Rf
end

section
namespace Rf
open PySem PySem.Spec PyProof.Rows L2

/-! ## data as PyData -/
mutual
theorem toPy_lay : ∀ (d : D), (toPy d).canLay0 = true
  | .non => by simp [toPy, PyData.canLay0]
  | .bl _ => by simp [toPy, PyData.canLay0]
  | .int _ => by simp [toPy, PyData.canLay0]
  | .str s => by
    simp only [toPy, PyData.canLay0, PyData.strOk]
    simp only [List.all_toArray, List.all_map, List.all_eq_true]
    intro c _
    have h := c.valid
    simp only [UInt32.isValidChar, Nat.isValidChar] at h
    simp only [Function.comp, decide_eq_true_eq]
    show c.val.toNat < 0x110000
    omega
  | .tup xs => by simp only [toPy, PyData.canLay0]; exact toPys_lay xs
  | .ob _ => by simp [toPy, PyData.canLay0]
  | .fn _ => by simp [toPy, PyData.canLay0]
  | .con _ => by simp [toPy, PyData.canLay0]
theorem toPys_lay : ∀ (ds : List D), PyData.canLayAll0 (toPys ds) = true
  | [] => by simp [toPys, PyData.canLayAll0]
  | d :: ds => by simp only [toPys, PyData.canLayAll0, toPy_lay d, toPys_lay ds, Bool.and_self]
end
mutual
theorem toPy_dep : ∀ (d : D), (toPy d).depth = dep d
  | .non => by simp [toPy, PyData.depth, dep]
  | .bl _ => by simp [toPy, PyData.depth, dep]
  | .int _ => by simp [toPy, PyData.depth, dep]
  | .str _ => by simp [toPy, PyData.depth, dep]
  | .tup xs => by simp only [toPy, PyData.depth, dep, toPys_dep xs]
  | .ob _ => by simp [toPy, PyData.depth, dep]
  | .fn _ => by simp [toPy, PyData.depth, dep]
  | .con _ => by simp [toPy, PyData.depth, dep]
theorem toPys_dep : ∀ (ds : List D), PyData.depthAll (toPys ds) = deps ds
  | [] => by simp [toPys, PyData.depthAll, deps]
  | d :: ds => by simp only [toPys, PyData.depthAll, deps, toPy_dep d, toPys_dep ds]
end
section
variable {G : Gx} {as : List Addr} {H : Hp}
mutual
theorem Rep.dp : ∀ {d : D} {v : V}, pur d = true → Rep G as H d v → Dp G.K H v (toPy d)
  | .non, _, _, h => by simp only [Rep] at h; subst h; simp only [toPy]; exact .non
  | .bl b, _, _, h => by simp only [Rep] at h; subst h; simp only [toPy]; exact .bl b
  | .int b, _, _, h => by simp only [Rep] at h; subst h; simp only [toPy]; exact .int b
  | .str b, _, _, h => by simp only [Rep] at h; subst h; simp only [toPy]; exact .str _
  | .tup ds, _, p, h => by
    simp only [Rep] at h
    obtain ⟨a, vs, rfl, hs, hr⟩ := h
    simp only [pur] at p
    simp only [toPy]
    exact .tup (SqT.of hs) (Reps.dp p hr)
  | .ob _, _, p, _ => by simp [pur] at p
  | .fn _, _, p, _ => by simp [pur] at p
  | .con _, _, p, _ => by simp [pur] at p
theorem Reps.dp : ∀ {ds : List D} {vs : List V}, purs ds = true → Reps G as H ds vs → DpAll G.K H vs (toPys ds)
  | [], _, _, h => by simp only [Reps] at h; subst h; simp only [toPys]; exact .nil
  | d :: ds, _, p, h => by
    simp only [purs, Bool.and_eq_true] at p
    simp only [Reps] at h
    obtain ⟨v, r, rfl, h1, h2⟩ := h
    simp only [toPys]
    exact .cons (Rep.dp p.1 h1) (Reps.dp p.2 h2)
end
end
section
variable {X : Cx} {M : Mx} {Wx : WX} {pins : List (Addr × Obj)} {s : Shared} {σ : L2.St} {H : Hp}
theorem eqD_ok {x y : V} {dx dy : D} {h : Hs} {as : List Addr} {b : Bool} (hi : HI (M.g X.K) h as H) (r1 : Rep (M.g X.K) as H dx x) (r2 : Rep (M.g X.K) as H dy y) (e : eqD h dx dy = some b) :
    ∃ d d', Dp X.K H x d ∧ Dp X.K H y d' ∧ SeqAt.shaped d = true ∧ SeqAt.shaped d' = true ∧ PyData.eqv d d' = b := by
  have pure_ : ∀ dx dy : D, Rep (M.g X.K) as H dx x → Rep (M.g X.K) as H dy y → (if flat dx && flat dy then some (eqv dx dy) else none) = some b → ∃ d d', Dp X.K H x d ∧ Dp X.K H y d' ∧ SeqAt.shaped d = true ∧ SeqAt.shaped d' = true ∧ PyData.eqv d d' = b := by
    intro dx dy r1 r2 e
    split at e
    · rename_i hf
      simp only [flat, Bool.and_eq_true, decide_eq_true_eq] at hf
      obtain ⟨⟨p1, d1⟩, p2, d2⟩ := hf
      refine ⟨toPy dx, toPy dy, Rep.dp (G := M.g X.K) p1 r1, Rep.dp (G := M.g X.K) p2 r2, ?_, ?_, ?_⟩
      · unfold SeqAt.shaped; rw [toPy_lay, toPy_dep]; simpa using d1
      · unfold SeqAt.shaped; rw [toPy_lay, toPy_dep]; simpa using d2
      · rw [eqv_toPy _ _ p1 p2]; exact Option.some.inj e
    · cases e
  cases dx with
  | ob n =>
    cases dy with
    | ob m =>
      simp only [eqD] at e
      split at e
      · rename_i xs ys e1 e2
        split at e
        · rename_i hc
          simp only [Bool.and_eq_true, decide_eq_true_eq] at hc
          obtain ⟨⟨⟨p1, p2⟩, d1⟩, d2⟩ := hc
          simp only [Rep] at r1 r2
          obtain ⟨a, rfl, ea⟩ := r1
          obtain ⟨b', rfl, eb⟩ := r2
          obtain ⟨vs, h1, rv⟩ := hi.ob n _ a e1 ea
          obtain ⟨ws, h2, rw'⟩ := hi.ob m _ b' e2 eb
          refine ⟨.list (toPys xs), .list (toPys ys), .lst (SqL.of h1) (Reps.dp (G := M.g X.K) p1 rv), .lst (SqL.of h2) (Reps.dp (G := M.g X.K) p2 rw'), ?_, ?_, ?_⟩
          · unfold SeqAt.shaped
            simp only [PyData.canLay0, PyData.depth, toPys_lay, toPys_dep, Bool.true_and, decide_eq_true_eq]; omega
          · unfold SeqAt.shaped
            simp only [PyData.canLay0, PyData.depth, toPys_lay, toPys_dep, Bool.true_and, decide_eq_true_eq]; omega
          · simp only [PyData.eqv]; rw [eqvs_toPy _ _ p1 p2]; exact Option.some.inj e
        · cases e
      · cases e
    | _ => exact pure_ _ _ r1 r2 e
  | _ => cases dy <;> exact pure_ _ _ r1 r2 e
/-- truth -/
theorem truth_ok {x : V} {dx : D} {h : Hs} {as : List Addr} {b : Bool} (hi : HI (M.g X.K) h as H) (r1 : Rep (M.g X.K) as H dx x) (e : truth dx h = some b) : TruV X.K x H b := by
  have emp : ∀ {ds : List D} {vs : List V}, Reps (M.g X.K) as H ds vs → (!ds.isEmpty) = !vs.isEmpty := by
    intro ds vs r
    cases ds <;> cases vs <;> simp [Reps] at r ⊢
  cases dx with
  | non => simp only [Rep] at r1; subst r1; simp only [truth, Option.some.injEq] at e; exact e.symm
  | bl c => simp only [Rep] at r1; subst r1; simp only [truth, Option.some.injEq] at e; exact e.symm
  | int i => simp only [Rep] at r1; subst r1; simp only [truth, Option.some.injEq] at e; exact e.symm
  | str z =>
    simp only [Rep] at r1; subst r1; simp only [truth] at e
    split at e
    · rename_i hl
      refine ⟨by simpa [st, Str.length] using hl, ?_⟩
      rw [← Option.some.inj e]
      have : (st z).length = z.length := by simp [st, Str.length]
      rw [this]
      cases z with
      | nil => rfl
      | cons a r =>
        simp only [List.isEmpty_cons, Bool.not_false, List.length_cons]
        symm
        rw [bne_iff_ne]; omega
    · cases e
  | tup ds =>
    simp only [Rep] at r1
    obtain ⟨a, vs, rfl, hs, hr⟩ := r1
    simp only [truth, Option.some.injEq] at e
    exact .inr (.inl ⟨vs, SqT.of hs, by rw [← e]; exact emp hr⟩)
  | ob n =>
    simp only [Rep] at r1
    obtain ⟨a, rfl, ea⟩ := r1
    simp only [truth] at e
    split at e
    · rename_i ds e1
      obtain ⟨vs, h1, hr⟩ := hi.ob n _ a e1 ea
      exact .inl ⟨vs, SqL.of h1, by rw [← Option.some.inj e]; exact emp hr⟩
    · rename_i ds e1
      obtain ⟨o, h1⟩ := hi.ob n _ a e1 ea
      exact .inl ⟨_, .inl (.inr ⟨o, h1⟩), by rw [← Option.some.inj e]; cases ds <;> rfl⟩
    · cases e
  | fn i => simp [truth] at e
  | con i => simp [truth] at e
/-- in a list or tuple -/
theorem Rep.inj_pur (I : Inv X pins σ H s) {as : List Addr} : ∀ {d d' : D} {v : V}, pur d = true → pur d' = true → Rep (M.g X.K) as H d v → Rep (M.g X.K) as H d' v → toPy d = toPy d' := by
  intro d d' v p p' r r'
  have h1 := Rep.dp (G := M.g X.K) p r
  have h2 := Rep.dp (G := M.g X.K) p' r'
  have key : ∀ (a : PyData) (v : V) (b : PyData), Dp X.K H v a → Dp X.K H v b → (∀ xs, a ≠ .list xs) → True := fun _ _ _ _ _ _ => trivial
  clear key r r' p p'
  revert h1 h2
  generalize toPy d = a
  generalize toPy d' = b
  intro h1 h2
  have main : (∀ (v : V) (a : PyData), Dp X.K H v a → ∀ b, Dp X.K H v b → a = b) := by
    intro v a h
    refine Dp.rec (motive_1 := fun v a _ => ∀ b, Dp X.K H v b → a = b) (motive_2 := fun vs ds _ => ∀ es, DpAll X.K H vs es → ds = es) ?_ ?_ ?_ ?_ ?_ ?_ ?_ ?_ h
    · intro b h; cases h; rfl
    · intro c b h; cases h; rfl
    · intro c b h; cases h; rfl
    · intro c b h; cases h; rfl
    · intro p xs ds hs _ ih b h
      cases h with
      | lst hs' ha' => rw [I.list_inj hs hs'] at ih; rw [ih _ ha']
      | tup hs' ha' =>
        obtain ⟨_, _, ⟨o, n, e, c, _⟩, _⟩ := I.list hs
        obtain ⟨_, _, ⟨o', e', c', _⟩, _⟩ := I.tuple hs'
        rw [e] at e'; cases e'; rw [c] at c'; injection c' with c2; exact absurd c2 (by decide)
    · intro p xs ds hs _ ih b h
      cases h with
      | tup hs' ha' => rw [I.tuple_inj hs hs'] at ih; rw [ih _ ha']
      | lst hs' ha' =>
        obtain ⟨_, _, ⟨o, n, e, c, _⟩, _⟩ := I.list hs'
        obtain ⟨_, _, ⟨o', e', c', _⟩, _⟩ := I.tuple hs
        rw [e] at e'; cases e'; rw [c] at c'; injection c' with c2; exact absurd c2 (by decide)
    · intro es h; cases h; rfl
    · intro v vs d ds _ _ ih1 ih2 es h
      cases h with
      | cons a b => rw [ih1 _ a, ih2 _ b]
  exact main v a h1 b h2
open Classical in
theorem in_seq_ok {neg : Bool} {op : CmpOp} (hop : (neg, op) = (false, .In) ∨ (neg, op) = (true, .NotIn)) {x : V} {dx : D} {ys : List D} {vs : List V} {p : Addr} {v : Value} {h : Hs} {as : List Addr} {Q : VK} (hu : X.A.units + 200 < cLine) (I : Inv X pins σ H s)
    (rx : RelV x v) (hi : HI (M.g X.K) h as H) (r1 : Rep (M.g X.K) as H dx x) (hq : SqL X.K H p vs ∨ SqT X.K H p vs) (r2 : Reps (M.g X.K) as H ys vs) (fx : flat dx = true) (fy : ys.all flat = true)
    (q : Q (.bl (if neg then !inL dx ys else inL dx ys)) H) : wpAny (model X.prog X.w) X.A (compareOp op v (.ref p)) (EP X pins σ Q) X.xe s := by
  have flat_ : ∀ {d}, flat d = true → pur d = true ∧ dep d ≤ 64 := by
    intro d hd; simpa [flat] using hd
  obtain ⟨px, dxx⟩ := flat_ fx
  -- the answers by the values
  have go : ∀ its : List Value, Vals vs its → ∃ ans : Value → Bool, (∀ w ∈ its, SeqAt.EqAt X.A.in1 s w v (ans w)) ∧ its.any ans = inL dx ys := by
    intro its rv
    have room : ∀ (d : D), X.A.in1.units + min (toPy d).depth (toPy dx).depth < cLine := by
      intro d
      rw [toPy_dep, toPy_dep]
      show X.A.units + 1 + _ < _
      have := Nat.min_le_right (dep d) (dep dx)
      omega
    obtain ⟨as1, rdx⟩ := Dp.reads I (toPy dx) x v (Rep.dp (G := M.g X.K) px r1) rx
    have one : ∀ {d : D} {y : V} {w : Value}, pur d = true → Rep (M.g X.K) as H d y → RelV y w → SeqAt.EqAt X.A.in1 s w v (eqv d dx) := by
      intro d y w pd rd rw_
      obtain ⟨bs, rdy⟩ := Dp.reads I (toPy d) y w (Rep.dp (G := M.g X.K) pd rd) rw_
      rw [← eqv_toPy d dx pd px]
      exact SeqAt.eqAt_reads (toPy d) (toPy dx) X.A.in1 s w v bs as1 rdy rdx (toPy_lay _) (toPy_lay _) (room d)
    refine ⟨fun w => decide (∃ d y, d ∈ ys ∧ Rep (M.g X.K) as H d y ∧ RelV y w ∧ eqv d dx = true), ?_, ?_⟩
    · intro w hw
      have : ∀ (ys : List D) (vs : List V) (its : List Value), Reps (M.g X.K) as H ys vs → Vals vs its → w ∈ its → ∃ d y, d ∈ ys ∧ Rep (M.g X.K) as H d y ∧ RelV y w := by
        intro ys
        induction ys with
        | nil => intro vs its r rv hw; simp only [Reps] at r; subst r; cases rv; cases hw
        | cons d ds ih =>
          intro vs its r rv hw
          simp only [Reps] at r
          obtain ⟨y, r', rfl, h1, h2⟩ := r
          cases rv with
          | cons a b =>
            rcases List.mem_cons.mp hw with rfl | hw
            · exact ⟨d, y, List.mem_cons_self, h1, a⟩
            · obtain ⟨d', y', m, q1, q2⟩ := ih _ _ h2 b hw
              exact ⟨d', y', List.mem_cons_of_mem _ m, q1, q2⟩
      obtain ⟨d, y, hd, rd, rw_⟩ := this ys vs its r2 rv hw
      have pd := (flat_ (List.all_eq_true.mp fy d hd)).1
      have e : decide (∃ d y, d ∈ ys ∧ Rep (M.g X.K) as H d y ∧ RelV y w ∧ eqv d dx = true) = eqv d dx := by
        cases he : eqv d dx with
        | true => exact decide_eq_true ⟨d, y, hd, rd, rw_, he⟩
        | false =>
          refine decide_eq_false ?_
          rintro ⟨d', y', hd', rd', rw', he'⟩
          obtain rfl := rw'.inj rw_
          have pd' := (flat_ (List.all_eq_true.mp fy d' hd')).1
          have e := Rep.inj_pur (M := M) I pd pd' rd rd'
          rw [← eqv_toPy d dx pd px] at he
          rw [← eqv_toPy d' dx pd' px, ← e, he] at he'
          cases he'
      show SeqAt.EqAt X.A.in1 s w v (decide _)
      rw [e]
      exact one pd rd rw_
    · rw [Bool.eq_iff_iff, List.any_eq_true, inL, List.any_eq_true]
      constructor
      · rintro ⟨w, _, hw⟩
        obtain ⟨d, y, hd, _, _, he⟩ := of_decide_eq_true hw
        exact ⟨d, hd, he⟩
      · rintro ⟨d, hd, he⟩
        have : ∀ (ys : List D) (vs : List V) (its : List Value), Reps (M.g X.K) as H ys vs → Vals vs its → d ∈ ys → ∃ w y, w ∈ its ∧ Rep (M.g X.K) as H d y ∧ RelV y w := by
          intro ys
          induction ys with
          | nil => intro vs its r rv hw; cases hw
          | cons d0 ds ih =>
            intro vs its r rv hw
            simp only [Reps] at r
            obtain ⟨y, r', rfl, h1, h2⟩ := r
            cases rv with
            | cons a b =>
              rcases List.mem_cons.mp hw with rfl | hw
              · exact ⟨_, y, List.mem_cons_self, h1, a⟩
              · obtain ⟨w', y', m, q1, q2⟩ := ih _ _ h2 b hw
                exact ⟨w', y', List.mem_cons_of_mem _ m, q1, q2⟩
        obtain ⟨w, y, hw, rd, rw_⟩ := this ys vs its r2 rv hd
        exact ⟨w, hw, decide_eq_true ⟨d, y, hd, rd, rw_, he⟩⟩
  rcases hq with hq | hq
  · obtain ⟨its, rv, pl, hz⟩ := I.list hq
    obtain ⟨ans, a1, a2⟩ := go its rv
    rcases hop with e | e <;> cases e
    · refine SeqAt.in_listAt ans pl.isList (fun w hw => a1 w (by simpa using hw)) ⟨.bl _, H, I, rfl, ?_⟩
      rw [show its.toArray.any ans = its.any ans by simp, a2]; exact q
    · refine SeqAt.notIn_listAt ans pl.isList (fun w hw => a1 w (by simpa using hw)) ⟨.bl _, H, I, rfl, ?_⟩
      rw [show its.toArray.any ans = its.any ans by simp, a2]; exact q
  · obtain ⟨its, rv, pl, hz⟩ := I.tuple hq
    obtain ⟨ans, a1, a2⟩ := go its rv
    rcases hop with e | e <;> cases e
    · refine SeqAt.in_tupleAt ans pl (fun w hw => a1 w (by simpa using hw)) ⟨.bl _, H, I, rfl, ?_⟩
      rw [show its.toArray.any ans = its.any ans by simp, a2]; exact q
    · refine SeqAt.notIn_tupleAt ans pl (fun w hw => a1 w (by simpa using hw)) ⟨.bl _, H, I, rfl, ?_⟩
      rw [show its.toArray.any ans = its.any ans by simp, a2]; exact q
end
end Rf
end

section
namespace Rf
open PySem PySem.Spec PyProof.Rows L2

theorem post.imp {α β : Type} {G : Gx} {Wx : WX} {Rl : List Addr → Hp → α → β → Prop} {as : List Addr} {H : Hp} {σ : L2.St} {r : R α} {Q Q' : β → Hp → Prop} (p : post G Wx Rl as H σ r Q) (h : ∀ v H', Q v H' → Q' v H') : post G Wx Rl as H σ r Q' := by
  cases r with
  | ok d h' => exact fun v as2 H2 e i q => h _ _ (p v as2 H2 e i q)
  | exc c fs h' => exact p
  | no => exact p

/-! ## keys -/
theorem st_inj {s t : List Char} (e : st s = st t) : s = t := by
  have := st_beq s t
  rw [e, beq_self_eq_true] at this
  exact (eq_of_beq this.symm)
theorem eqv_key {a k : D} {x y : Key} (ha : keyK a = some x) (hk : keyK k = some y) : eqv a k = decide (x = y) := by
  cases a <;> simp only [keyK, Option.some.injEq, reduceCtorEq] at ha <;> cases k <;> simp only [keyK, Option.some.injEq, reduceCtorEq] at hk <;> subst ha hk
  · rename_i i j
    simp only [eqv]
    rw [Bool.eq_iff_iff, beq_iff_eq, decide_eq_true_eq]
    exact ⟨fun e => by rw [e], fun e => Sum.inl.inj e⟩
  · simp only [eqv]
    exact (decide_eq_false (fun q => nomatch q)).symm
  · simp only [eqv]
    exact (decide_eq_false (fun q => nomatch q)).symm
  · rename_i i j
    simp only [eqv]
    rw [Bool.eq_iff_iff, beq_iff_eq, decide_eq_true_eq]
    exact ⟨fun e => by rw [e], fun e => st_inj (Sum.inr.inj e)⟩
theorem eqvs_key : ∀ {a k : List D} {x y : List Key}, keyKs a = some x → keyKs k = some y → eqvs a k = decide (x = y)
  | [], [], x, y, ha, hk => by simp only [keyKs, Option.some.injEq] at ha hk; subst ha hk; simp [eqvs]
  | [], d :: ds, x, y, ha, hk => by
    simp only [keyKs, Option.some.injEq] at ha; subst ha
    simp only [keyKs] at hk
    split at hk
    · cases hk; simp [eqvs]
    · cases hk
  | d :: ds, [], x, y, ha, hk => by
    simp only [keyKs, Option.some.injEq] at hk; subst hk
    simp only [keyKs] at ha
    split at ha
    · cases ha; simp [eqvs]
    · cases ha
  | d :: ds, e :: es, x, y, ha, hk => by
    simp only [keyKs] at ha hk
    split at ha
    · rename_i k1 ks1 e1 e2
      split at hk
      · rename_i k2 ks2 e3 e4
        cases ha; cases hk
        simp only [eqvs, eqv_key e1 e3, eqvs_key e2 e4]
        rw [Bool.eq_iff_iff]
        simp
      · cases hk
    · cases ha
theorem eqv_keyT {a k : D} {x y : List Key} (ha : keyT a = some x) (hk : keyT k = some y) : eqv a k = decide (x = y) := by
  cases a <;> simp only [keyT, reduceCtorEq] at ha
  cases k <;> simp only [keyT, reduceCtorEq] at hk
  simp only [eqv]
  exact eqvs_key ha hk
theorem isK_key {d : D} (h : isK d = true) : ∃ k, keyK d = some k := by
  cases d <;> simp [isK] at h <;> exact ⟨_, rfl⟩
theorem isT_key {d : D} (h : isT d = true) : ∃ k, keyT d = some k := by
  cases d with
  | tup ds =>
    simp only [isT] at h
    simp only [keyT]
    induction ds with
    | nil => exact ⟨[], rfl⟩
    | cons a r ih =>
      simp only [List.all_cons, Bool.and_eq_true] at h
      obtain ⟨k, hk⟩ := isK_key h.1
      obtain ⟨ks, hks⟩ := ih h.2
      exact ⟨k :: ks, by simp only [keyKs, hk, hks]⟩
  | _ => simp [isT] at h
section
variable {κ : Type} [DecidableEq κ] {ky : D → Option κ} {G : Gx} {as : List Addr} {H : Hp}
theorem RepKV.get (he : ∀ {a k : D} {x y : κ}, ky a = some x → ky k = some y → eqv a k = decide (x = y)) {k : D} {y : κ} (hk : ky k = some y) : ∀ {kvs : List (D × D)} {kv : List (κ × V)}, RepKV ky G as H kvs kv →
    (kvGet kvs k = none ∧ valV kv y = none) ∨ ∃ d v, kvGet kvs k = some d ∧ valV kv y = some v ∧ Rep G as H d v
  | _, _, .nil => .inl ⟨rfl, rfl⟩
  | (a, b) :: kvs, (x, v) :: kv, .cons h t => by
    have e := he h.1 hk
    simp only [kvGet]
    by_cases hx : x = y
    · rw [decide_eq_true hx] at e
      rw [if_pos e]
      exact .inr ⟨b, v, rfl, valV_pos hx, h.2⟩
    · rw [decide_eq_false hx] at e
      rw [e, valV_neg hx]
      simpa using RepKV.get he hk t
theorem valV_none_any {kv : List (κ × V)} {y : κ} (h : valV kv y = none) : (kv.any fun q => decide (q.1 = y)) = false := by
  rw [valV_any, h]; rfl
theorem RepKV.any (he : ∀ {a k : D} {x y : κ}, ky a = some x → ky k = some y → eqv a k = decide (x = y)) {k : D} {y : κ} (hk : ky k = some y) : ∀ {kvs : List (D × D)} {kv : List (κ × V)}, RepKV ky G as H kvs kv →
    (kvs.any fun p => eqv p.1 k) = kv.any fun q => decide (q.1 = y)
  | _, _, .nil => rfl
  | (a, b) :: kvs, (x, v) :: kv, .cons h t => by
    rw [List.any_cons, List.any_cons, RepKV.any he hk t, he h.1 hk]
theorem RepKV.repl (he : ∀ {a k : D} {x y : κ}, ky a = some x → ky k = some y → eqv a k = decide (x = y)) {k d : D} {y : κ} {v : V} (hk : ky k = some y) (hv : Rep G as H d v) :
    ∀ {kvs : List (D × D)} {kv : List (κ × V)}, RepKV ky G as H kvs kv → RepKV ky G as H (kvs.map (fun p => if eqv p.1 k = true then (p.1, d) else p)) (kv.map (fun p => if p.1 = y then (p.1, v) else p))
  | _, _, .nil => .nil
  | (a, b) :: kvs, (x, w) :: kv, .cons h t => by
    have e := he h.1 hk
    rw [List.map_cons, List.map_cons]
    refine .cons ?_ (RepKV.repl he hk hv t)
    show ky (if eqv a k = true then (a, d) else (a, b)).1 = some (if x = y then (x, v) else (x, w)).1 ∧ Rep G as H (if eqv a k = true then (a, d) else (a, b)).2 (if x = y then (x, v) else (x, w)).2
    rw [show eqv a k = decide (x = y) from e]
    by_cases hx : x = y
    · rw [if_pos (decide_eq_true hx), if_pos hx]; exact ⟨h.1, hv⟩
    · rw [if_neg (by simpa using hx), if_neg hx]; exact h
theorem RepKV.snoc {k d : D} {y : κ} {v : V} (hk : ky k = some y) (hv : Rep G as H d v) : ∀ {kvs : List (D × D)} {kv : List (κ × V)}, RepKV ky G as H kvs kv → RepKV ky G as H (kvs ++ [(k, d)]) (kv ++ [(y, v)])
  | _, _, .nil => .cons ⟨hk, hv⟩ .nil
  | _ :: _, _ :: _, .cons h t => .cons h (RepKV.snoc hk hv t)
theorem RepKV.put (he : ∀ {a k : D} {x y : κ}, ky a = some x → ky k = some y → eqv a k = decide (x = y)) {k d : D} {y : κ} {v : V} (hk : ky k = some y) (hv : Rep G as H d v)
    {kvs : List (D × D)} {kv : List (κ × V)} (r : RepKV ky G as H kvs kv) : RepKV ky G as H (kvPut kvs k d) (putK kv y v) := by
  unfold kvPut putK
  rw [RepKV.any he hk r]
  split
  · exact RepKV.repl he hk hv r
  · exact RepKV.snoc hk hv r
theorem RepKV.length {kvs : List (D × D)} {kv : List (κ × V)} (h : RepKV ky G as H kvs kv) : kvs.length = kv.length := Paired.length h
end
section
variable {X : Cx} {M : Mx} {Wx : WX} {pins : List (Addr × Obj)} {s : Shared} {σ : L2.St} {H : Hp} {as : List Addr} {h : Hs}
theorem lkd.rd {lk : Bool} {a : Addr} {o : HO} (e : lkd lk H a o) : Rd H a o := by
  unfold lkd at e
  split at e
  · exact .inr e
  · exact .inl e
/-- SqT that is tracked -/
theorem Rep.keyT_ref {ds : List D} {ks : List Key} (e : keyKs ds = some ks) {vs : List V} (r : Reps (M.g X.K) as H ds vs) : vs = ks.map kV := by
  induction ds generalizing ks vs with
  | nil => simp only [keyKs, Option.some.injEq] at e; subst e; simp only [Reps] at r; subst r; rfl
  | cons d ds ih =>
    simp only [keyKs] at e
    split at e
    · rename_i k ks' e1 e2
      cases e
      simp only [Reps] at r
      obtain ⟨v, r', rfl, h1, h2⟩ := r
      rw [List.map_cons, ← ih e2 h2]
      congr 1
      cases d <;> simp only [keyK, Option.some.injEq, reduceCtorEq] at e1 <;> subst e1 <;> simp only [Rep] at h1 <;> subst h1 <;> rfl
    · cases e
theorem Rep.keyK_v {d : D} {k : Key} {v : V} (e : keyK d = some k) (r : Rep (M.g X.K) as H d v) : v = kV k := by
  cases d <;> simp only [keyK, Option.some.injEq, reduceCtorEq] at e <;> subst e <;> simp only [Rep] at r <;> subst r <;> rfl
end
end Rf
end

section
namespace Rf
open PySem PySem.Spec PyProof.Rows L2

/-- the module's constant tuples (lists) -/
def ConOk (M : Mx) (K : PySem.W.Frag) : Prop := ∀ (g : Nat) (ys : List D) (a : Addr), M.W.cons[g]? = some ys → M.ga g = some a →
  ∃ vs : List V, (∀ (H : Hp) (as : List Addr), SqT K H a vs ∧ Reps (M.g K) as H ys vs) ∧ ys.all flat = true
/-- the script, where it is an object of the module -/
def ScrOk (M : Mx) (K : PySem.W.Frag) : Prop := ∀ a : Addr, M.ga M.W.cons.length = some a → ∀ H : Hp, SqL K H a (M.W.scr.map V.int)
section
variable {X : Cx} {M : Mx} {Wx : WX} {pins : List (Addr × Obj)} {s : Shared} {σ : L2.St} {H : Hp}
theorem dget_ok {x : V} {k : D} {a : Addr} {as : List Addr} {lk t : Bool} {kvs : List (D × D)} (hob : ObR (M.g X.K) as H a (.dic lk t kvs)) (hk : okK t kvs k = true) (rk : Rep (M.g X.K) as H k x) :
    ∃ o, DGet H a x o ∧ ((kvGet kvs k = none ∧ o = none) ∨ ∃ d v, kvGet kvs k = some d ∧ o = some v ∧ Rep (M.g X.K) as H d v) := by
  cases t with
  | false =>
    obtain ⟨kv, h1, h2⟩ := hob
    simp only [okK, Bool.false_eq_true, if_false, Bool.and_eq_true] at hk
    obtain ⟨y, hy⟩ := isK_key hk.1
    refine ⟨valV kv y, .inl ⟨kv, y, h1.rd, Rep.keyK_v hy rk, rfl⟩, ?_⟩
    rcases RepKV.get (fun a b => eqv_key a b) hy h2 with ⟨e1, e2⟩ | ⟨d, v, e1, e2, r⟩
    · exact .inl ⟨e1, e2⟩
    · exact .inr ⟨d, v, e1, e2, r⟩
  | true =>
    obtain ⟨kv, h1, h2⟩ := hob
    simp only [okK, if_true, Bool.and_eq_true] at hk
    obtain ⟨y, hy⟩ := isT_key hk.1
    cases k with
    | tup ds =>
      simp only [Rep] at rk
      obtain ⟨b, vs, rfl, hb, hr⟩ := rk
      rw [Rep.keyT_ref hy hr] at hb
      refine ⟨valV kv y, .inr ⟨kv, y, b, h1.rd, rfl, hb, rfl⟩, ?_⟩
      rcases RepKV.get (fun a b => eqv_keyT a b) hy h2 with ⟨e1, e2⟩ | ⟨d, v, e1, e2, r⟩
      · exact .inl ⟨e1, e2⟩
      · exact .inr ⟨d, v, e1, e2, r⟩
    | _ => simp [keyT] at hy
theorem st1 (c : Char) : st [c] = ⟨#[c.toNat]⟩ := rfl
theorem st_mem (c : Char) (z : List Char) : decide (c.toNat ∈ (st z).cps.toList) = z.contains c := by
  rw [Bool.eq_iff_iff, decide_eq_true_eq, List.contains_iff_mem]
  show c.toNat ∈ z.map Char.toNat ↔ _
  constructor
  · intro h
    obtain ⟨d, hd, e⟩ := List.mem_map.mp h
    rw [← Char.toNat_inj.mp e]; exact hd
  · exact fun h => List.mem_map.mpr ⟨c, h, rfl⟩
theorem inD_ok {neg : Bool} {op : CmpOp} (hop : (neg, op) = (false, .In) ∨ (neg, op) = (true, .NotIn)) {x y : V} {dx dy : D} {v u : Value} {h : Hs} {as : List Addr} {Q : VK} {b : Bool} (hu : X.A.units + 200 < cLine) (hc : ConOk M X.K) (I : Inv X pins σ H s)
    (rx : RelV x v) (ry : RelV y u) (hi : HI (M.g X.K) h as H) (r1 : Rep (M.g X.K) as H dx x) (r2 : Rep (M.g X.K) as H dy y) (e : inD M.W.cons dx dy h = some b)
    (q : Q (.bl (if neg then !b else b)) H) : wpAny (model X.prog X.w) X.A (compareOp op v u) (EP X pins σ Q) X.xe s := by
  cases dy with
  | tup ys =>
    simp only [inD] at e
    split at e
    · rename_i hf
      simp only [Bool.and_eq_true] at hf
      cases e
      simp only [Rep] at r2
      obtain ⟨a, vs, rfl, h1, hr⟩ := r2
      cases ry
      exact in_seq_ok hop hu I rx hi r1 (.inr (SqT.of h1)) hr hf.1 hf.2 q
    · cases e
  | con g =>
    simp only [inD] at e
    split at e
    · rename_i ys e1
      split at e
      · rename_i hf
        simp only [Bool.and_eq_true] at hf
        cases e
        simp only [Rep] at r2
        obtain ⟨a, rfl, h1⟩ := r2
        cases ry
        obtain ⟨vs, hv, _⟩ := hc g ys a e1 h1
        exact in_seq_ok hop hu I rx hi r1 (.inr (hv H as).1) (hv H as).2 hf.1 hf.2 q
      · cases e
    · cases e
  | ob n =>
    simp only [inD] at e
    simp only [Rep] at r2
    obtain ⟨a, rfl, ea⟩ := r2
    cases ry
    split at e
    · rename_i ys e1
      split at e
      · rename_i hf
        simp only [Bool.and_eq_true] at hf
        cases e
        obtain ⟨vs, h1, hr⟩ := hi.ob n _ a e1 ea
        exact in_seq_ok hop hu I rx hi r1 (.inl (SqL.of h1)) hr hf.1 hf.2 q
      · cases e
    · rename_i lk t kvs e1
      split at e
      · rename_i hf
        cases e
        obtain ⟨o, g, ho⟩ := dget_ok (hi.ob n _ a e1 ea) hf r1
        have eo : o.isSome = (kvGet kvs dx).isSome := by
          rcases ho with ⟨e1, e2⟩ | ⟨d, v, e1, e2, _⟩ <;> rw [e1, e2] <;> rfl
        rcases hop with e | e <;> cases e
        · exact d_in (by omega) I g rx fun s' I' => ⟨.bl o.isSome, H, I', rfl, by rw [eo]; exact q⟩
        · exact d_notIn (by omega) I g rx fun s' I' => ⟨.bl (!o.isSome), H, I', rfl, by rw [eo]; exact q⟩
      · cases e
    · cases e
  | str z =>
    simp only [inD] at e
    split at e
    · rename_i c
      cases e
      simp only [Rep] at r1 r2
      subst r1 r2
      rw [← st_mem] at q
      rcases hop with e | e <;> cases e
      · exact op_in_sign pins s σ H _ _ v u Q I rx ry ⟨c.toNat, st z, rfl, rfl, q⟩
      · exact op_notIn_sign pins s σ H _ _ v u Q I rx ry ⟨c.toNat, st z, rfl, rfl, q⟩
    · cases e
  | _ => simp [inD] at e
/-- comparisons -/
def cpOf : Cp → CmpOp
  | .eq => .Eq | .ne => .NotEq | .lt => .Lt | .le => .LtE | .gt => .Gt | .ge => .GtE | .in_ => .In | .nin => .NotIn | .is_ => .Is | .isn => .IsNot
theorem hits_of {A : Around} {s : Shared} {ls : List (D × D)} {lv : List (Key × V)} {vb : List (Key × Value)} {as : List Addr} (hu : A.units + 100 < cLine) (I : Inv X pins σ H s) (hl : RepKV keyK (M.g X.K) as H ls lv) (fl : ls.all (fun p => flat p.2) = true) (rb : KV lv vb) :
    ∀ {ks : List (D × D)} {kv : List (Key × V)} {va : List (Key × Value)}, RepKV keyK (M.g X.K) as H ks kv → ks.all (fun p => flat p.2) = true → KV kv va → PySem.W.KeqHits A s vb va (ks.all (hitKV ls))
  | _, _, _, .nil, _, .nil => .nil
  | (k, d) :: ks, (x, v) :: kv, (x', u) :: va, .cons h1 t1, fk, .cons h2 t2 => by
    simp only [List.all_cons, Bool.and_eq_true] at fk
    obtain ⟨hk, hr⟩ := h1
    obtain ⟨rfl, ru⟩ := h2
    simp only at hk hr ru
    have ih := hits_of hu I hl fl rb t1 fk.2 t2
    rw [List.all_cons]
    rcases RepKV.get (fun ha hk => eqv_key ha hk) hk hl with ⟨e1, e2⟩ | ⟨w, wv, e1, e2, rw_⟩
    · have : hitKV ls (k, d) = false := by unfold hitKV; rw [e1]
      rw [this, Bool.false_and]
      refine .miss ?_
      have := rb.val x
      rw [e2] at this
      exact this.none_of
    · have : hitKV ls (k, d) = eqv d w := by unfold hitKV; rw [e1]
      rw [this]
      have rv := rb.val x
      rw [e2] at rv
      obtain ⟨y, hy, ry⟩ := rv.some_of
      refine .hit hy ?_ ih
      have fw : flat w = true := by
        have : ∀ {l : List (D × D)}, kvGet l k = some w → ∃ p ∈ l, p.2 = w := by
          intro l
          induction l with
          | nil => intro e; simp [kvGet] at e
          | cons p l ih =>
            obtain ⟨a, b⟩ := p
            intro e
            unfold kvGet at e
            split at e
            · cases e; exact ⟨_, List.mem_cons_self, rfl⟩
            · obtain ⟨q, hq, eq⟩ := ih e; exact ⟨q, List.mem_cons_of_mem _ hq, eq⟩
        obtain ⟨p, hp, rfl⟩ := this e1
        exact List.all_eq_true.mp fl p hp
      have flat_ : ∀ {d}, flat d = true → pur d = true ∧ dep d ≤ 64 := by
        intro d hd; simpa [flat] using hd
      obtain ⟨pd, dd⟩ := flat_ fk.1
      obtain ⟨pw, dw⟩ := flat_ fw
      obtain ⟨bs, rdx⟩ := Dp.reads I (toPy d) v u (Rep.dp (G := M.g X.K) pd hr) ru
      obtain ⟨cs, rdy⟩ := Dp.reads I (toPy w) wv y (Rep.dp (G := M.g X.K) pw rw_) ry
      rw [← eqv_toPy d w pd pw]
      refine SeqAt.eqAt_reads (toPy d) (toPy w) A s u y bs cs rdx rdy (toPy_lay _) (toPy_lay _) ?_
      rw [toPy_dep, toPy_dep]
      have := Nat.min_le_right (dep d) (dep w)
      omega
theorem cmpA_ok {o : Cp} {x y : V} {dx dy : D} {v u : Value} {h : Hs} {as : List Addr} {Q : VK} (hu : X.A.units + 200 < cLine) (hc : ConOk M X.K) (I : Inv X pins σ H s) (rx : RelV x v) (ry : RelV y u)
    (hi : HI (M.g X.K) h as H) (r1 : Rep (M.g X.K) as H dx x) (r2 : Rep (M.g X.K) as H dy y) (p : post (M.g X.K) Wx (Rep (M.g X.K)) as H σ (cmpA M.W.cons o dx dy h) Q) :
    wpAny (model X.prog X.w) X.A (compareOp (cpOf o) v u) (EP X pins σ Q) X.xe s := by
  have fin : ∀ {b : Bool}, post (M.g X.K) Wx (Rep (M.g X.K)) as H σ (.ok (.bl b) h) Q → Q (.bl b) H := fun {b} p => p _ as H Ext.refl hi (by simp only [Rep])
  have int2 : ∀ {g : Int → Int → Bool}, OpR X (compareOp (cpOf o)) (rI0 fun i j => .bl (g i j)) → (post (M.g X.K) Wx (Rep (M.g X.K)) as H σ (cmpI g dx dy h) Q) →
      wpAny (model X.prog X.w) X.A (compareOp (cpOf o) v u) (EP X pins σ Q) X.xe s := by
    intro g hop p
    cases dx <;> try exact p.elim
    cases dy <;> try exact p.elim
    simp only [Rep] at r1 r2
    subst r1 r2
    exact hop pins s σ H _ _ v u Q I rx ry ⟨_, _, rfl, rfl, fin p⟩
  cases o with
  | eq =>
    simp only [cmpA] at p
    split at p
    · rename_i q eq_
      obtain ⟨b, e, p⟩ := post.ofO p
      unfold dicB at eq_
      split at eq_
      · rename_i n m
        split at eq_
        · rename_i lk1 ks lk2 ls e1 e2
          cases eq_
          simp only [Rep] at r1 r2
          obtain ⟨a, rfl, ea⟩ := r1
          obtain ⟨a', rfl, eb⟩ := r2
          obtain ⟨kv, h1, rk⟩ := hi.ob n _ a e1 ea
          obtain ⟨lv, h2, rl⟩ := hi.ob m _ a' e2 eb
          obtain rfl : v = Value.ref a := rx
          obtain rfl : u = Value.ref a' := ry
          obtain ⟨_, ya, va, ra, da⟩ := dk_rd I.hok h1.rd
          obtain ⟨_, yb, vb, rb, db⟩ := dk_rd I.hok h2.rd
          unfold eqKV at e
          split at e
          · rename_i hf
            simp only [Bool.and_eq_true] at hf
            cases e
            have hl1 : va.length = ks.length := by rw [← ra.length, ← Paired.length rk]
            have hl2 : vb.length = ls.length := by rw [← rb.length, ← Paired.length rl]
            exact PySem.W.keq_eq (knd := mixKind X.prog X.w) (r := ks.all (hitKV ls)) ya yb da db (by omega) (fun _ => hits_of (by show X.A.units + 1 + 100 < _; omega) I rl hf.2 rb rk hf.1 ra) (fin_bl I (fin p) (by rw [hl1, hl2]))
          · cases e
        · cases eq_
      · cases eq_
    · simp only [cmpD] at p
      split at p
      · rename_i b e
        obtain ⟨d, d', h1, h2, h3, h4, h5⟩ := eqD_ok hi r1 r2 e
        exact op_eqD (by omega) pins s σ H x y v u Q I rx ry ⟨d, d', h1, h2, h3, h4, by rw [h5]; exact fin p⟩
      · exact p.elim
  | ne =>
    simp only [cmpA] at p
    split at p
    · rename_i q eq_
      obtain ⟨b, e, p⟩ := post.ofO p
      unfold dicB at eq_
      split at eq_
      · rename_i n m
        split at eq_
        · rename_i lk1 ks lk2 ls e1 e2
          cases eq_
          simp only [Rep] at r1 r2
          obtain ⟨a, rfl, ea⟩ := r1
          obtain ⟨a', rfl, eb⟩ := r2
          obtain ⟨kv, h1, rk⟩ := hi.ob n _ a e1 ea
          obtain ⟨lv, h2, rl⟩ := hi.ob m _ a' e2 eb
          obtain rfl : v = Value.ref a := rx
          obtain rfl : u = Value.ref a' := ry
          obtain ⟨_, ya, va, ra, da⟩ := dk_rd I.hok h1.rd
          obtain ⟨_, yb, vb, rb, db⟩ := dk_rd I.hok h2.rd
          unfold eqKV at e
          split at e
          · rename_i hf
            simp only [Bool.and_eq_true] at hf
            cases e
            have hl1 : va.length = ks.length := by rw [← ra.length, ← Paired.length rk]
            have hl2 : vb.length = ls.length := by rw [← rb.length, ← Paired.length rl]
            exact PySem.W.keq_ne (knd := mixKind X.prog X.w) (r := ks.all (hitKV ls)) ya yb da db (by omega) (fun _ => hits_of (by show X.A.units + 1 + 100 < _; omega) I rl hf.2 rb rk hf.1 ra) (fin_bl I (fin p) (by rw [hl1, hl2]))
          · cases e
        · cases eq_
      · cases eq_
    · simp only [cmpD] at p
      split at p
      · rename_i b e
        obtain ⟨d, d', h1, h2, h3, h4, h5⟩ := eqD_ok hi r1 r2 e
        exact op_neD (by omega) pins s σ H x y v u Q I rx ry ⟨d, d', h1, h2, h3, h4, by rw [h5]; exact fin p⟩
      · exact p.elim
  | lt => exact int2 op_lt p
  | le => exact int2 op_le p
  | gt => exact int2 op_gt p
  | ge => exact int2 op_ge p
  | in_ =>
    obtain ⟨b, e, p⟩ := post.ofO p
    exact inD_ok (neg := false) (.inl rfl) hu hc I rx ry hi r1 r2 e (fin p)
  | nin =>
    obtain ⟨b, e, p⟩ := post.ofO p
    exact inD_ok (neg := true) (.inr rfl) hu hc I rx ry hi r1 r2 e (fin p)
  | is_ =>
    simp only [cmpA] at p
    cases dy <;> try exact p.elim
    case bl k =>
      cases dx <;> try exact p.elim
      simp only [Rep] at r1 r2
      subst r1 r2
      exact op_is_bl pins s σ H _ _ v u Q I rx ry ⟨_, _, rfl, rfl, fin p⟩
    simp only [Rep] at r2
    subst r2
    refine op_isN pins s σ H x _ v u Q I rx ry ⟨rfl, ?_⟩
    cases dx <;> simp only [Rep] at r1
    · subst r1; exact fin p
    all_goals first
      | (subst r1; exact fin p)
      | (obtain ⟨a, _, rfl, _⟩ := r1; exact fin p)
      | (obtain ⟨a, rfl, _⟩ := r1; exact fin p)
  | isn =>
    simp only [cmpA] at p
    cases dy <;> try exact p.elim
    case bl k =>
      cases dx <;> try exact p.elim
      simp only [Rep] at r1 r2
      subst r1 r2
      exact op_isnot_bl pins s σ H _ _ v u Q I rx ry ⟨_, _, rfl, rfl, fin p⟩
    simp only [Rep] at r2
    subst r2
    refine op_notN pins s σ H x _ v u Q I rx ry ⟨rfl, ?_⟩
    cases dx <;> simp only [Rep] at r1
    · subst r1; exact fin p
    all_goals first
      | (subst r1; exact fin p)
      | (obtain ⟨a, _, rfl, _⟩ := r1; exact fin p)
      | (obtain ⟨a, rfl, _⟩ := r1; exact fin p)
end
end Rf
end

section
namespace Rf
open PySem PySem.Spec PyProof.Rows L2

theorem ofString_inj {a b : String} (e : Str.ofString a = Str.ofString b) : a = b := by
  rw [Str.ofString_eq_toList, Str.ofString_eq_toList] at e
  have e1 := congrArg (fun z => z.cps.toList) e
  exact String.toList_inj.mp ((List.map_inj_right (fun a b h => Char.toNat_inj.mp h)).mp e1)
theorem ofString_st (a : String) : Str.ofString a = st a.toList := Str.ofString_eq_toList a
theorem st_len (z : List Char) : (st z).length = z.length := by simp [st, Str.length]
section
variable {G : Gx} {as : List Addr} {H : Hp}
theorem RepF.lookup (f : String) : ∀ {fs : List (String × D)} {vs : List (Str × V)}, RepF G as H fs vs → (fs.lookup f = none ∧ vs.lookup (Str.ofString f) = none) ∨ ∃ d v, fs.lookup f = some d ∧ vs.lookup (Str.ofString f) = some v ∧ Rep G as H d v
  | _, _, .nil => .inl ⟨rfl, rfl⟩
  | (g, d) :: fs, (q, v) :: vs, .cons h t => by
    obtain ⟨e, hr⟩ := h
    simp only at e hr
    subst e
    rw [List.lookup_cons, List.lookup_cons]
    by_cases hf : f = g
    · subst hf
      rw [beq_self_eq_true, beq_self_eq_true]
      exact .inr ⟨d, v, rfl, rfl, hr⟩
    · rw [beq_eq_false_iff_ne.mpr hf, beq_eq_false_iff_ne.mpr (fun e => hf (ofString_inj e))]
      exact RepF.lookup f t
theorem RepF.put {f : String} {d : D} {v : V} (hv : Rep G as H d v) : ∀ {fs : List (String × D)} {vs : List (Str × V)}, RepF G as H fs vs → RepF G as H (fput f d fs) (putF (Str.ofString f) v vs)
  | _, _, .nil => .cons ⟨rfl, hv⟩ .nil
  | (g, d') :: fs, (q, v') :: vs, .cons h t => by
    obtain ⟨e, hr⟩ := h
    simp only at e hr
    subst e
    simp only [fput, putF]
    by_cases hf : g = f
    · subst hf
      rw [if_pos rfl, if_pos rfl]
      exact .cons ⟨rfl, hv⟩ t
    · rw [if_neg hf, if_neg (fun e => hf (ofString_inj e))]
      exact .cons ⟨rfl, hr⟩ (RepF.put hv t)
theorem RepF.length {fs : List (String × D)} {vs : List (Str × V)} (h : RepF G as H fs vs) : fs.length = vs.length := Paired.length h
theorem Reps.at {ds : List D} {vs : List V} {i : Int} {d : D} (r : Reps G as H ds vs) (e : atI ds i = some d) : ∃ v, atI vs i = some v ∧ Rep G as H d v := by
  unfold atI at e ⊢
  rw [← r.length]
  cases h : ixN ds.length i with
  | none => rw [h] at e; simp at e
  | some j =>
    rw [h] at e
    simp only [Option.bind_some] at e ⊢
    exact r.get e
theorem Reps.cut {ds : List D} {vs : List V} (lo hi : Option Int) (r : Reps G as H ds vs) : Reps G as H (cutD ds lo hi) (cutV vs lo hi) := by
  unfold cutD cutV
  rw [← r.length]
  exact Reps.take _ (Reps.drop _ r)
theorem Reps.int_map {ns : List Int} : Reps G as H (ns.map D.int) (ns.map V.int) := Reps.ints
end
section
variable {X : Cx} {M : Mx} {Wx : WX} {pins : List (Addr × Obj)} {s : Shared} {σ : L2.St} {H : Hp}
/-- what is at an address: a list of ours or the script -/
theorem lst_of {h : Hs} {as : List Addr} (hi : HI (M.g X.K) h as H) {n : Nat} {a : Addr} {xs : List D} (e : h[n]? = some (.lst xs) ∨ ∃ ns : List Int, h[n]? = some (.scr ns) ∧ xs = ns.map D.int) (ea : as[n]? = some a) : ∃ vs, SqL X.K H a vs ∧ Reps (M.g X.K) as H xs vs := by
  rcases e with e | ⟨ns, e, rfl⟩
  · obtain ⟨vs, h1, h2⟩ := hi.ob n _ a e ea
    exact ⟨vs, SqL.of h1, h2⟩
  · obtain ⟨o, h1⟩ := hi.ob n _ a e ea
    exact ⟨_, .inl (.inr ⟨o, h1⟩), Reps.ints⟩
/-- x[y], not of a dict -/
def rIx8 (M : Mx) (K : PySem.W.Frag) (Wx : WX) (σ : L2.St) : R2 := fun x y H Q => ∃ dx dy h as, HI (M.g K) h as H ∧ Rep (M.g K) as H dx x ∧ Rep (M.g K) as H dy y ∧ (∀ n lk t kvs, dx = .ob n → h[n]? ≠ some (.dic lk t kvs)) ∧ post (M.g K) Wx (Rep (M.g K)) as H σ (ixD M.W.cons dx dy h) Q
theorem ix8 (hc : ConOk M X.K) (σ' : L2.St) : IxR X (rIx8 M X.K Wx σ') := by
  intro value slice pins s σ H x y v u Q I rx ry h hsub
  obtain ⟨dx, dy, h, as, hi, r1, r2, nd, p⟩ := h
  have seq_ : ∀ {ds : List D} {a : Addr} {i : Int} {vs : List V}, x = .ref a → dy = .int i → (SqL X.K H a vs ∨ SqT X.K H a vs) → Reps (M.g X.K) as H ds vs → post (M.g X.K) Wx (Rep (M.g X.K)) as H σ' (ofO (atI ds i) h) Q →
      wpAny (model X.prog X.w) X.A (subscriptTail value slice v u) (EP X pins σ Q) X.xe s := by
    intro ds a i vs e1 e2 hq hr p2
    subst e1 e2
    simp only [Rep] at r2
    subst r2
    cases e : atI ds i with
    | none => rw [e] at p2; exact p2.elim
    | some d =>
      rw [e] at p2
      obtain ⟨w, e3, rw_⟩ := hr.at e
      have q : Q w H := p2 w as H Ext.refl hi rw_
      rcases hq with hq | hq
      · exact ix_list value slice pins s σ H _ _ v u Q I rx ry ⟨a, vs, i, w, rfl, rfl, hq, e3, q⟩ hsub
      · exact ix_tup value slice pins s σ H _ _ v u Q I rx ry ⟨a, vs, i, w, rfl, rfl, hq, e3, q⟩ hsub
  cases dx with
  | tup xs =>
    cases dy with
    | int i =>
      simp only [Rep] at r1
      obtain ⟨a, vs, rfl, h1, hr⟩ := r1
      exact seq_ rfl rfl (.inr (SqT.of h1)) hr p
    | _ => exact p.elim
  | con g =>
    cases dy with
    | int i =>
      simp only [ixD] at p
      simp only [Rep] at r1
      obtain ⟨a, rfl, h1⟩ := r1
      split at p
      · rename_i ys e1
        obtain ⟨vs, hv, _⟩ := hc g ys a e1 h1
        exact seq_ rfl rfl (.inr (hv H as).1) (hv H as).2 p
      · exact p.elim
    | _ => exact p.elim
  | str z =>
    cases dy with
    | int i =>
      simp only [Rep] at r1 r2
      subst r1 r2
      simp only [ixD] at p
      split at p
      · rename_i hl
        cases e : atI z i with
        | none => rw [e] at p; exact p.elim
        | some c =>
          rw [e] at p
          have q : Q (.str (st [c])) H := p _ as H Ext.refl hi (by simp only [Rep])
          refine ix_str value slice pins s σ H _ _ v u Q I rx ry ⟨st z, i, c.toNat, rfl, rfl, by rw [st_len]; exact hl, ?_, q⟩ hsub
          show atI (z.map Char.toNat) i = some c.toNat
          unfold atI at e ⊢
          rw [List.length_map]
          cases h : ixN z.length i with
          | none => rw [h] at e; simp at e
          | some j =>
            rw [h] at e
            simp only [Option.bind_some, List.getElem?_map] at e ⊢
            rw [e]; rfl
      · exact p.elim
    | _ => exact p.elim
  | ob n =>
    simp only [Rep] at r1
    obtain ⟨a, rfl, ea⟩ := r1
    simp only [ixD] at p
    split at p
    · rename_i xs i e1
      obtain ⟨vs, h1, h2⟩ := lst_of hi (.inl e1) ea
      exact seq_ rfl rfl (.inl h1) h2 p
    · rename_i ns i e1
      obtain ⟨vs, h1, h2⟩ := lst_of hi (.inr ⟨ns, e1, rfl⟩) ea
      have e : (atI ns i).map D.int = atI (ns.map D.int) i := by
        unfold atI
        rw [List.length_map]
        cases ixN ns.length i with
        | none => rfl
        | some j => simp
      rw [e] at p
      exact seq_ rfl rfl (.inl h1) h2 p
    · rename_i lk t kvs e1
      exact absurd e1 (nd n lk t kvs rfl)
    · exact p.elim
  | _ => exact p.elim
/-- slices -/
def rSl8 (M : Mx) (K : PySem.W.Frag) (Wx : WX) (σ : L2.St) : V → Option Int → Option Int → Hp → VK → Prop := fun x lo hi H Q => ∃ dx h as, HI (M.g K) h as H ∧ Rep (M.g K) as H dx x ∧ post (M.g K) Wx (Rep (M.g K)) as H σ (slD dx lo hi h) Q
theorem sl8 (σ' : L2.St) : SlR X (rSl8 M X.K Wx σ') := by
  intro pins s σ H x v vl vu lo hi sl Q I rx hsl pl pu hh
  obtain ⟨dx, h, as, hI, r1, p⟩ := hh
  cases dx with
  | tup xs =>
    simp only [Rep] at r1
    obtain ⟨a, vs, rfl, h1, hr⟩ := r1
    refine sl_tupA pins s σ H _ v vl vu lo hi sl Q I rx hsl pl pu ⟨a, vs, rfl, SqT.of h1, fun e => ?_, fun e q hq => ?_⟩
    · refine p _ as H Ext.refl hI ?_
      simp only [Rep]
      have : cutD xs lo hi = xs := by
        unfold cutD
        rw [hr.length, e.1, e.2, Nat.sub_zero, List.drop_zero, ← hr.length, List.take_length]
      rw [this]
      exact ⟨a, vs, rfl, h1, hr⟩
    · refine p _ as _ (ext_tup hq) (hI.other hq) ?_
      simp only [Rep]
      exact ⟨q, _, rfl, upd_same, (hr.cut lo hi).mono (ext_tup hq)⟩
  | str z =>
    simp only [Rep] at r1
    subst r1
    simp only [slD] at p
    split at p
    · rename_i hz
      refine sl_str pins s σ H _ v vl vu lo hi sl Q I rx hsl pl pu ⟨st z, rfl, by rw [st_len]; exact hz, ?_⟩
      refine p _ as H Ext.refl hI ?_
      simp only [Rep]
      congr 1
      unfold cutS cutD st
      simp [Str.length, List.map_take, List.map_drop]
    · exact p.elim
  | ob n =>
    simp only [Rep] at r1
    obtain ⟨a, rfl, ea⟩ := r1
    have go : ∀ xs : List D, (h[n]? = some (.lst xs) ∨ ∃ ns : List Int, h[n]? = some (.scr ns) ∧ xs = ns.map D.int) → post (M.g X.K) Wx (Rep (M.g X.K)) as H σ' (.ok (.ob h.length) (h ++ [.lst (cutD xs lo hi)])) Q →
        ∃ T id, typeLookup (.type T) "__getitem__" = pure (some (.builtin id)) ∧ s.TypeIs v T ∧ wpAny (model X.prog X.w) X.A (getItem v (.ref sl)) (EP X pins σ Q) X.xe s := by
      intro xs e p
      obtain ⟨vs, h1, h2⟩ := lst_of hI e ea
      refine sl_list pins s σ H _ v vl vu lo hi sl Q I rx hsl pl pu ⟨a, vs, rfl, h1, fun q hq => ?_⟩
      refine p _ (as ++ [q]) _ (ext_new hq) (hI.new hq ⟨_, upd_same, (h2.cut lo hi).mono (ext_new hq)⟩) ?_
      simp only [Rep]
      exact ⟨q, rfl, by rw [← hI.len]; simp⟩
    simp only [slD] at p
    split at p
    · rename_i xs e1
      exact go xs (.inl e1) p
    · rename_i ns e1
      refine go _ (.inr ⟨ns, e1, rfl⟩) ?_
      have : cutD (ns.map D.int) lo hi = (cutD ns lo hi).map D.int := by
        unfold cutD; simp [List.map_take, List.map_drop]
      rw [this]; exact p
    · exact p.elim
  | _ => exact p.elim
/-- o[i] = v, of a list or a dict -/
theorem putD_ok {x y z : V} {dx dy dz : D} {ov iv zv : Value} {h h' : Hs} {as : List Addr} {Q : Unit → Shared → Prop} (hu : X.A.units + 200 < cLine) (I : Inv X pins σ H s) (rx : RelV x ov) (ry : RelV y iv) (rz : RelV z zv)
    (hi : HI (M.g X.K) h as H) (r1 : Rep (M.g X.K) as H dx x) (r2 : Rep (M.g X.K) as H dy y) (r3 : Rep (M.g X.K) as H dz z) (e : putD dx dy dz h = some h')
    (q : ∀ H' s', Ext as H as H' → HI (M.g X.K) h' as H' → Inv X pins σ H' s' → Q () s') : wpAny (model X.prog X.w) X.A (setItem ov iv zv) Q X.xe s := by
  cases dx with
  | ob n =>
    simp only [Rep] at r1
    obtain ⟨a, rfl, ea⟩ := r1
    cases rx
    simp only [putD] at e
    split at e
    · rename_i xs k e1
      obtain ⟨j, e2, e3⟩ := Option.map_eq_some_iff.mp e
      subst e3
      obtain ⟨vs, h1, hr⟩ := hi.ob n _ a e1 ea
      simp only [Rep] at r2
      subst r2
      refine wpAny_mono (set_list pins s σ H (.ref a) (.int k) z (Value.ref a) iv zv (fun H' => H' = upd H a (.lst (vs.set j z))) I rfl ry rz ⟨a, vs, k, j, rfl, rfl, h1, by rw [← hr.length]; exact e2, rfl⟩) ?_ (fun _ _ x => x)
      rintro _ s' ⟨H', I', rfl⟩
      have ex := ext_set (o := HO.lst (vs.set j z)) ea h1 (fun _ => by intro z; cases z) (fun _ _ => by intro z; cases z)
      exact q _ s' ex (hi.set ea h1 (fun _ => by intro z; cases z) (fun _ _ => by intro z; cases z) ⟨_, upd_same, (Reps.set r3 j hr).mono ex⟩) I'
    · rename_i dy2 _ _ t kvs e1
      split at e
      · rename_i hk
        simp only [Bool.and_eq_true, decide_eq_true_eq] at hk
        cases e
        cases t with
        | false =>
          obtain ⟨kv, h1, h2⟩ := hi.ob n _ a e1 ea
          simp only [lkd, Bool.false_eq_true, if_false] at h1
          have hk1 := hk.1
          simp only [okK, Bool.false_eq_true, if_false, Bool.and_eq_true] at hk1
          obtain ⟨ky, hy⟩ := isK_key hk1.1
          rw [Rep.keyK_v hy r2] at ry
          refine d_setItem (by omega) I (DPut.k (k := ky) (v := z) h1 (by rw [← h2.length]; exact hk.2)) ry rz fun s' I' => ?_
          have ex := ext_set (o := HO.dK (putK kv ky z)) ea h1 (fun _ => by intro z; cases z) (fun _ _ => by intro z; cases z)
          refine q _ s' ex (hi.set ea h1 (fun _ => by intro z; cases z) (fun _ _ => by intro z; cases z) ⟨_, ?_, (RepKV.put (fun a b => eqv_key a b) hy r3 h2).mono ex⟩) I'
          simp only [lkd, Bool.false_eq_true, if_false]; exact upd_same
        | true =>
          obtain ⟨kv, h1, h2⟩ := hi.ob n _ a e1 ea
          simp only [lkd, Bool.false_eq_true, if_false] at h1
          have hk1 := hk.1
          simp only [okK, if_true, Bool.and_eq_true] at hk1
          obtain ⟨ky, hy⟩ := isT_key hk1.1
          cases dy2 with
          | tup ds =>
            simp only [Rep] at r2
            obtain ⟨b, ws, rfl, hb, hr⟩ := r2
            rw [Rep.keyT_ref hy hr] at hb
            refine d_setItem (by omega) I (DPut.t (k := ky) (v := z) h1 hb (by rw [← h2.length]; exact hk.2)) ry rz fun s' I' => ?_
            have ex := ext_set (o := HO.dT (putK kv ky z)) ea h1 (fun _ => by intro z; cases z) (fun _ _ => by intro z; cases z)
            refine q _ s' ex (hi.set ea h1 (fun _ => by intro z; cases z) (fun _ _ => by intro z; cases z) ⟨_, ?_, (RepKV.put (fun a b => eqv_keyT a b) hy r3 h2).mono ex⟩) I'
            simp only [lkd, Bool.false_eq_true, if_false]; exact upd_same
          | _ => simp [keyT] at hy
      · cases e
    · cases e
  | _ => simp [putD] at e
end
end Rf
end

section
namespace Rf
open PySem PySem.Spec PyProof.Rows L2

theorem Reps.cons_inv {G : Gx} {as H} {d : D} {ds : List D} {vs : List V} (h : Reps G as H (d :: ds) vs) : ∃ v r, vs = v :: r ∧ Rep G as H d v ∧ Reps G as H ds r := by
  simpa only [Reps] using h
theorem Reps.nil_inv {G : Gx} {as H} {vs : List V} (h : Reps G as H [] vs) : vs = [] := by
  simpa only [Reps] using h
section
variable {X : Cx} {M : Mx} {Wx : WX} {pins : List (Addr × Obj)} {s : Shared} {σ : L2.St} {H : Hp}
def rBl (M : Mx) (K : PySem.W.Frag) (Wx : WX) (σ : L2.St) (b : Bf) : List V → Hp → VK → Prop := fun xs H Q => ∃ ds h as, HI (M.g K) h as H ∧ Reps (M.g K) as H ds xs ∧ post (M.g K) Wx (Rep (M.g K)) as H σ (bltD b ds h) Q
theorem one_of {σ' : L2.St} {b : Bf} {xs : List V} {H : Hp} {Q : VK} (h : rBl M X.K Wx σ' b xs H Q) : ∃ ds h as, HI (M.g X.K) h as H ∧ Reps (M.g X.K) as H ds xs ∧ post (M.g X.K) Wx (Rep (M.g X.K)) as H σ' (bltD b ds h) Q := h
theorem bl_len (σ' : L2.St) : CallR X (.builtin "len") (rBl M X.K Wx σ' .len) := by
  intro pins s σ H xs us Q I r hh
  obtain ⟨ds, h, as, hi, rs, p⟩ := hh
  match ds with
  | [] => exact p.elim
  | d0 :: _ :: _ => cases d0 <;> exact p.elim
  | [d] =>
    obtain ⟨v, _, rfl, r1, rn⟩ := rs.cons_inv
    obtain rfl := rn.nil_inv
    cases d with
    | tup ys =>
      simp only [Rep] at r1
      obtain ⟨a, vs, rfl, h1, hr⟩ := r1
      refine call_len_seq pins s σ H _ us Q I r ⟨a, vs, rfl, .inr (SqT.of h1), ?_⟩
      rw [← hr.length]
      exact p _ as H Ext.refl hi (by simp only [Rep])
    | str z =>
      simp only [Rep] at r1
      subst r1
      simp only [bltD] at p
      split at p
      · rename_i hz
        refine call_len_str pins s σ H _ us Q I r ⟨st z, rfl, by rw [st_len]; exact hz, ?_⟩
        rw [st_len]
        exact p _ as H Ext.refl hi (by simp only [Rep])
      · exact p.elim
    | ob n =>
      simp only [Rep] at r1
      obtain ⟨a, rfl, ea⟩ := r1
      simp only [bltD] at p
      split at p
      · rename_i ys e1
        obtain ⟨vs, h1, h2⟩ := lst_of hi (.inl e1) ea
        refine call_len_seq pins s σ H _ us Q I r ⟨a, vs, rfl, .inl h1, ?_⟩
        rw [← h2.length]
        exact p _ as H Ext.refl hi (by simp only [Rep])
      · rename_i ys e1
        obtain ⟨vs, h1, h2⟩ := lst_of hi (.inr ⟨ys, e1, rfl⟩) ea
        refine call_len_seq pins s σ H _ us Q I r ⟨a, vs, rfl, .inl h1, ?_⟩
        rw [← h2.length, List.length_map]
        exact p _ as H Ext.refl hi (by simp only [Rep])
      · rename_i lk kvs e1
        obtain ⟨kv, h1, h2⟩ := hi.ob n _ a e1 ea
        obtain ⟨u, rfl, ru⟩ := Vals.one r
        cases ru
        refine d_len I h1.rd fun t s' I' => ⟨.int kv.length, H, I', ⟨t, rfl⟩, ?_⟩
        rw [← h2.length]
        exact p _ as H Ext.refl hi (by simp only [Rep])
      · exact p.elim
    | _ => exact p.elim
theorem bl_abs (σ' : L2.St) : CallR X (.builtin "abs") (rBl M X.K Wx σ' .abs) := by
  intro pins s σ H xs us Q I r hh
  obtain ⟨ds, h, as, hi, rs, p⟩ := hh
  match ds with
  | [] => exact p.elim
  | d0 :: _ :: _ => cases d0 <;> exact p.elim
  | [d] =>
    obtain ⟨v, _, rfl, r1, rn⟩ := rs.cons_inv
    obtain rfl := rn.nil_inv
    cases d with
    | int i =>
      simp only [Rep] at r1; subst r1
      exact call_abs pins s σ H _ us Q I r ⟨i, rfl, p _ as H Ext.refl hi (by simp only [Rep])⟩
    | _ => exact p.elim
theorem bl_int (σ' : L2.St) : CallR X (.type "int") (rBl M X.K Wx σ' .int) := by
  intro pins s σ H xs us Q I r hh
  obtain ⟨ds, h, as, hi, rs, p⟩ := hh
  match ds with
  | [] => exact p.elim
  | d0 :: _ :: _ => cases d0 <;> exact p.elim
  | [d] =>
    obtain ⟨v, _, rfl, r1, rn⟩ := rs.cons_inv
    obtain rfl := rn.nil_inv
    cases d with
    | int i =>
      simp only [Rep] at r1; subst r1
      exact call_int1 pins s σ H _ us Q I r (.inl ⟨i, rfl, p _ as H Ext.refl hi (by simp only [Rep])⟩)
    | bl i =>
      simp only [Rep] at r1; subst r1
      exact call_int1 pins s σ H _ us Q I r (.inr ⟨i, rfl, p _ as H Ext.refl hi (by simp only [Rep])⟩)
    | str z =>
      simp only [bltD] at p
      split at p
      · rename_i k e
        split at p
        · rename_i hl
          simp only [Rep] at r1; subst r1
          exact call_int_str pins s σ H _ us Q I r ⟨_, k, rfl, e, by simpa [st, Str.length] using hl, p _ as H Ext.refl hi (by simp only [Rep])⟩
        · exact p.elim
      · exact p.elim
    | _ => exact p.elim
theorem bl_str (σ' : L2.St) : CallR X (.type "str") (rBl M X.K Wx σ' .str) := by
  intro pins s σ H xs us Q I r hh
  obtain ⟨ds, h, as, hi, rs, p⟩ := hh
  match ds with
  | [] => exact p.elim
  | d0 :: _ :: _ => cases d0 <;> exact p.elim
  | [d] =>
    obtain ⟨v, _, rfl, r1, rn⟩ := rs.cons_inv
    obtain rfl := rn.nil_inv
    cases d with
    | int i =>
      simp only [bltD] at p
      split at p
      · rename_i hl
        simp only [Rep] at r1; subst r1
        refine call_str_int pins s σ H _ us Q I r ⟨i, rfl, hl, p _ as H Ext.refl hi ?_⟩
        simp only [Rep]
        exact congrArg V.str (ofString_st _)
      · exact p.elim
    | str z =>
      simp only [bltD] at p
      simp only [Rep] at r1; subst r1
      exact SkE.call_str_str pins s σ H _ us Q I r ⟨_, rfl, p _ as H Ext.refl hi (by simp only [Rep])⟩
    | _ => exact p.elim
theorem bl_tuple (σ' : L2.St) : CallR X (.type "tuple") (rBl M X.K Wx σ' .tuple) := by
  intro pins s σ H xs us Q I r hh
  obtain ⟨ds, h, as, hi, rs, p⟩ := hh
  match ds with
  | [] => exact p.elim
  | d0 :: _ :: _ => cases d0 <;> exact p.elim
  | [d] =>
    obtain ⟨v, _, rfl, r1, rn⟩ := rs.cons_inv
    obtain rfl := rn.nil_inv
    cases d with
    | tup ys =>
      have r1' := r1
      simp only [Rep] at r1
      obtain ⟨a, vs, rfl, h1, hr⟩ := r1
      exact call_tuple_of pins s σ H _ us Q I r ⟨a, vs, rfl, .inr ⟨SqT.of h1, p _ as H Ext.refl hi r1'⟩⟩
    | ob n =>
      simp only [Rep] at r1
      obtain ⟨a, rfl, ea⟩ := r1
      simp only [bltD] at p
      split at p
      · rename_i ys e1
        obtain ⟨vs, h1, h2⟩ := lst_of hi (.inl e1) ea
        refine call_tuple_of pins s σ H _ us Q I r ⟨a, vs, rfl, .inl ⟨h1, fun q hq => ?_⟩⟩
        refine p _ as _ (ext_tup hq) (hi.other hq) ?_
        simp only [Rep]
        exact ⟨q, vs, rfl, upd_same, h2.mono (ext_tup hq)⟩
      · exact p.elim
    | _ => exact p.elim
theorem bl_list (hc : X.calm = true) (σ' : L2.St) : CallR X (.type "list") (rBl M X.K Wx σ' .list) := by
  intro pins s σ H xs us Q I r hh
  obtain ⟨ds, h, as, hi, rs, p⟩ := hh
  match ds with
  | [] => exact p.elim
  | d0 :: _ :: _ => cases d0 <;> exact p.elim
  | [d] =>
    obtain ⟨v, _, rfl, r1, rn⟩ := rs.cons_inv
    obtain rfl := rn.nil_inv
    have go : ∀ {a : Addr} {vs : List V} {ys : List D}, v = .ref a → (SqL X.K H a vs ∨ SqT X.K H a vs) → Reps (M.g X.K) as H ys vs → post (M.g X.K) Wx (Rep (M.g X.K)) as H σ' (.ok (.ob h.length) (h ++ [.lst ys])) Q → wpAny (model X.prog X.w) X.A (call (.type "list") us) (EP X pins σ Q) X.xe s := by
      intro a vs ys e hq hr p
      subst e
      refine call_list_of pins s σ H _ us Q I r ⟨a, vs, rfl, hq, fun q hq => ?_⟩
      refine p _ (as ++ [q]) _ (ext_new hq) (hi.new hq ⟨_, upd_same, hr.mono (ext_new hq)⟩) ?_
      simp only [Rep]
      exact ⟨q, rfl, by rw [← hi.len]; simp⟩
    cases d with
    | tup ys =>
      simp only [Rep] at r1
      obtain ⟨a, vs, rfl, h1, hr⟩ := r1
      exact go rfl (.inr (SqT.of h1)) hr p
    | ob n =>
      simp only [Rep] at r1
      obtain ⟨a, rfl, ea⟩ := r1
      simp only [bltD] at p
      split at p
      · rename_i ys e1
        obtain ⟨vs, h1, h2⟩ := lst_of hi (.inl e1) ea
        exact go rfl (.inl h1) h2 p
      · rename_i ys e1
        obtain ⟨vs, h1, h2⟩ := lst_of hi (.inr ⟨ys, e1, rfl⟩) ea
        exact go rfl (.inl h1) h2 p
      · rename_i kvs e1
        obtain ⟨kv, h1, h2⟩ := hi.ob n _ a e1 ea
        simp only [lkd, Bool.false_eq_true, if_false] at h1
        refine call_list_dK hc pins s σ H _ us Q I r ⟨a, kv, rfl, h1, fun q hq => ?_⟩
        refine p _ (as ++ [q]) _ (ext_new hq) (hi.new hq ⟨_, upd_same, ?_⟩) ?_
        · have : ∀ {kvs : List (D × D)} {kv : List (Key × V)}, RepKV keyK (M.g X.K) as H kvs kv → Reps (M.g X.K) (as ++ [q]) (upd H q (.lst (kv.map fun p => kV p.1))) (kvs.map (·.1)) (kv.map fun p => kV p.1) := by
            intro kvs kv hh
            generalize hH : upd H q _ = H2
            clear hH
            induction hh with
            | nil => simp [Reps]
            | cons a b ih =>
              rename_i p1 p2 _ _
              simp only [List.map_cons, Reps]
              refine ⟨_, _, rfl, ?_, ih⟩
              obtain ⟨k1, _⟩ := p1
              obtain ⟨k2, _⟩ := p2
              obtain ⟨e, _⟩ := a
              simp only at e ⊢
              cases k1 <;> simp only [keyK, Option.some.injEq, reduceCtorEq] at e <;> subst e <;> simp only [Rep, kV]
          exact this h2
        · simp only [Rep]
          exact ⟨q, rfl, by rw [← hi.len]; simp⟩
      · exact p.elim
    | _ => exact p.elim
theorem bl_dict (σ' : L2.St) : CallR X (.type "dict") (rBl M X.K Wx σ' .dict) := by
  intro pins s σ H xs us Q I r hh
  obtain ⟨ds, h, as, hi, rs, p⟩ := hh
  match ds with
  | [] => exact p.elim
  | d0 :: _ :: _ => cases d0 <;> exact p.elim
  | [d] =>
    obtain ⟨v, _, rfl, r1, rn⟩ := rs.cons_inv
    obtain rfl := rn.nil_inv
    cases d with
    | ob n =>
      simp only [Rep] at r1
      obtain ⟨a, rfl, ea⟩ := r1
      simp only [bltD] at p
      split at p
      · rename_i lk kvs e1
        obtain ⟨kv, h1, h2⟩ := hi.ob n _ a e1 ea
        refine call_dictD pins s σ H _ us Q I r ⟨a, kv, rfl, h1.rd, fun q hq => ?_⟩
        refine p _ (as ++ [q]) _ (ext_new hq) (hi.new hq ⟨kv, ?_, ?_⟩) ?_
        · simp only [lkd, Bool.false_eq_true, if_false]; exact upd_same
        · exact Paired.mapP h2 fun _ _ z => ⟨z.1, z.2.mono (ext_new hq)⟩
        · simp only [Rep]
          exact ⟨q, rfl, by rw [← hi.len]; simp⟩
      · exact p.elim
    | _ => exact p.elim
theorem bl_mm (hc : X.calm = true) (σ' : L2.St) : CallR X (.builtin "min") (rBl M X.K Wx σ' .min2) ∧ CallR X (.builtin "max") (rBl M X.K Wx σ' .max2) := by
  constructor
  all_goals
    intro pins s σ H xs us Q I r hh
    obtain ⟨ds, h, as, hi, rs, p⟩ := hh
    match ds with
    | [] => exact p.elim
    | [d] => cases d <;> exact p.elim
    | _ :: _ :: _ :: _ => rename_i a b _ _; cases a <;> cases b <;> exact p.elim
    | [d, d'] =>
      obtain ⟨v, _, rfl, r1, rn⟩ := rs.cons_inv
      obtain ⟨v', _, rfl, r2, rn⟩ := rn.cons_inv
      obtain rfl := rn.nil_inv
      cases d <;> cases d' <;> try exact p.elim
      simp only [Rep] at r1 r2
      subst r1 r2
      first
        | exact call_min2 hc pins s σ H _ us Q I r ⟨_, _, rfl, p _ as H Ext.refl hi (by simp only [Rep])⟩
        | exact call_max2 hc pins s σ H _ us Q I r ⟨_, _, rfl, p _ as H Ext.refl hi (by simp only [Rep])⟩
/-- isinstance with a built-in class -/
def tyOfB : Bf → Option String
  | .isList => some "list" | .isTup => some "tuple" | .isStr => some "str" | .isBool => some "bool" | .isInt => some "int" | _ => none
def rIs (M : Mx) (K : PySem.W.Frag) (Wx : WX) (σ : L2.St) (b : Bf) (T : String) : List V → Hp → VK → Prop := fun xs H Q => ∃ x d h as, xs = [x, .ty T] ∧ HI (M.g K) h as H ∧ Rep (M.g K) as H d x ∧ post (M.g K) Wx (Rep (M.g K)) as H σ (bltD b [d] h) Q
theorem bl_is {b : Bf} {T : String} (hb : tyOfB b = some T) (σ' : L2.St) : CallR X (.builtin "isinstance") (rIs M X.K Wx σ' b T) := by
  intro pins s σ H xs us Q I r hh
  obtain ⟨x, d, h, as, rfl, hi, r1, p⟩ := hh
  have go : ∀ {t : String} {k : Bool}, TyOf X.K H x (.type t) → kitB t T = some k → post (M.g X.K) Wx (Rep (M.g X.K)) as H σ' (.ok (.bl k) h) Q → wpAny (model X.prog X.w) X.A (call (.builtin "isinstance") us) (EP X pins σ Q) X.xe s := by
    intro t k ty hk p
    exact call_isi pins s σ H _ us Q I r ⟨x, .ty T, .type t, .type T, k, rfl, .ty T, .base ty, kit_ty hk, p _ as H Ext.refl hi (by simp only [Rep])⟩
  have ob : ∀ {n : Nat} {l k : Bool}, kitB "list" T = some l → kitB "dict" T = some k → d = .ob n → post (M.g X.K) Wx (Rep (M.g X.K)) as H σ' (isObB h n l k) Q → wpAny (model X.prog X.w) X.A (call (.builtin "isinstance") us) (EP X pins σ Q) X.xe s := by
    intro n l k h1 h2 e pp
    subst e
    simp only [Rep] at r1
    obtain ⟨a, rfl, ea⟩ := r1
    simp only [isObB] at pp
    split at pp
    · rename_i e1
      obtain ⟨vs, q1, _⟩ := hi.ob n _ a e1 ea
      exact go (TyOf.lst q1) h1 pp
    · rename_i t kvs e1
      cases t with
      | false =>
        obtain ⟨kv, q1, _⟩ := hi.ob n _ a e1 ea
        simp only [lkd, Bool.false_eq_true, if_false] at q1
        exact go (TyOf.dK q1) h2 pp
      | true =>
        obtain ⟨kv, q1, _⟩ := hi.ob n _ a e1 ea
        simp only [lkd, Bool.false_eq_true, if_false] at q1
        exact go (TyOf.dT q1) h2 pp
    · exact pp.elim
  cases b <;> simp only [tyOfB, Option.some.injEq, reduceCtorEq] at hb <;> subst hb <;> cases d <;> first | exact p.elim | exact ob (by decide +kernel) (by decide +kernel) rfl p | (simp only [Rep] at r1)
  all_goals first
    | (subst r1; exact go TyOf.non (by decide +kernel) p)
    | (subst r1; exact go (TyOf.bl _) (by decide +kernel) p)
    | (subst r1; exact go (TyOf.int _) (by decide +kernel) p)
    | (subst r1; exact go (TyOf.str _) (by decide +kernel) p)
    | (obtain ⟨a, vs, rfl, h1, hr⟩ := r1; exact go (TyOf.tup h1) (by decide +kernel) p)
end
end Rf
end

section
namespace Rf
open PySem PySem.Spec PyProof.Rows L2

/-! ## repr -/
theorem plC_range {c : Char} (h : plC c = true) : 32 ≤ c.toNat ∧ c.toNat < 127 ∧ c.toNat ≠ 39 ∧ c.toNat ≠ 92 := by
  simp only [plC, Bool.and_eq_true, decide_eq_true_eq] at h
  exact ⟨h.1.1.1, h.1.1.2, h.1.2, h.2⟩
theorem reprChar_all : (List.range 127).all (fun c => decide (c < 32) || c == 39 || c == 92 || decide (Builtin.Str.reprChar 39 c = [c])) = true := by decide +kernel
theorem reprChar_pl {c : Char} (h : plC c = true) : Builtin.Str.reprChar 39 c.toNat = [c.toNat] := by
  obtain ⟨h1, h2, h3, h4⟩ := plC_range h
  have := List.all_eq_true.mp reprChar_all c.toNat (List.mem_range.mpr h2)
  simp only [Bool.or_eq_true, decide_eq_true_eq, beq_iff_eq] at this
  rcases this with ((q | q) | q) | q
  · omega
  · exact absurd q h3
  · exact absurd q h4
  · exact q
theorem reprFold : ∀ (s : List Char) (acc : Array Nat), s.all plC = true → (s.map Char.toNat).foldl (fun out c => out ++ (Builtin.Str.reprChar 39 c).toArray) acc = acc ++ (s.map Char.toNat).toArray
  | [], acc, _ => by simp
  | c :: s, acc, h => by
    simp only [List.all_cons, Bool.and_eq_true] at h
    rw [List.map_cons, List.foldl_cons, reprChar_pl h.1, reprFold s _ h.2]
    simp
theorem repr_str {s : List Char} (h : s.all plC = true) : reprText (st s) = st ('\'' :: s ++ ['\'']) := by
  have hq : reprQuote (st s) = 39 := by
    unfold reprQuote
    have : (st s).cps.contains 39 = false := by
      rw [Bool.eq_false_iff]
      intro hc
      rw [Array.contains_iff_mem] at hc
      unfold st at hc
      rw [List.mem_toArray, List.mem_map] at hc
      obtain ⟨c, hc, e⟩ := hc
      exact (plC_range (List.all_eq_true.mp h c hc)).2.2.1 e
    rw [this]; rfl
  unfold reprText
  rw [hq]
  have e : ((st s).cps.foldl (fun out c => out ++ (Builtin.Str.reprChar 39 c).toArray) #[39]) = #[39] ++ (s.map Char.toNat).toArray := by
    unfold st
    rw [← Array.foldl_toList]
    exact reprFold s _ h
  rw [e]
  unfold st
  simp
theorem st_app (a b : List Char) : st a ++ st b = st (a ++ b) := by
  show (⟨(st a).cps ++ (st b).cps⟩ : Str) = _
  simp [st]
theorem join_st : ∀ ts : List (List Char), Str.join ", " (ts.map st) = st (joinC ts)
  | [] => by show (Str.empty : Str) = _; rfl
  | [x] => by simp only [List.map_cons, List.map_nil, joinC]; rfl
  | x :: y :: r => by
    have ih := join_st (y :: r)
    simp only [List.map_cons] at ih ⊢
    show (st x ++ (", " : Str) ++ Str.join ", " (st y :: r.map st) : Str) = _
    rw [ih]
    have e : ((", " : String) : Str) = st [',', ' '] := by decide +kernel
    rw [e, st_app, st_app]
    simp [joinC]
mutual
theorem shown_st : ∀ d : D, rpOk d = true → (toPy d).shown = st (rp d)
  | .non, _ => by simp only [toPy, PyData.shown, rp]; decide +kernel
  | .bl true, _ => by simp only [toPy, PyData.shown, rp]; decide +kernel
  | .bl false, _ => by simp only [toPy, PyData.shown, rp]; decide +kernel
  | .int i, _ => by simp only [toPy, PyData.shown, rp]; exact ofString_st _
  | .str s, h => by
    simp only [rpOk] at h
    simp only [toPy, PyData.shown, rp]
    exact repr_str h
  | .tup xs, h => by
    simp only [rpOk] at h
    simp only [toPy, PyData.shown, showns_st xs h]
    unfold tupleText
    have e0 : ((")" : String) : Str) = st [')'] := by decide +kernel
    have e1 : ((",)" : String) : Str) = st [',', ')'] := by decide +kernel
    have e2 : (("(" : String) : Str) = st ['('] := by decide +kernel
    rw [join_st, e2]
    match xs with
    | [] => simp only [rp, rps, List.map_nil]; rw [st_app, if_neg (by decide), e0, st_app]; rfl
    | [x] => simp only [rp, rps, List.map_cons, List.map_nil]; rw [st_app, if_pos (show ([st (rp x)].length == 1) = true from rfl), e1, st_app]; rfl
    | x :: y :: r =>
      simp only [rp, rps, List.map_cons]
      rw [st_app, if_neg (by simp), e0, st_app]; rfl
  | .ob _, h => by simp [rpOk] at h
  | .fn _, h => by simp [rpOk] at h
  | .con _, h => by simp [rpOk] at h
theorem showns_st : ∀ ds : List D, rpsOk ds = true → PyData.shownAll (toPys ds) = (rps ds).map st
  | [], _ => by simp [toPys, PyData.shownAll, rps]
  | d :: ds, h => by
    simp only [rpsOk, Bool.and_eq_true] at h
    simp only [toPys, PyData.shownAll, rps, List.map_cons, shown_st d h.1, showns_st ds h.2]
end
mutual
theorem rpOk_ok : ∀ d : D, rpOk d = true → pur d = true ∧ (toPy d).showable = true ∧ (toPy d).hasDict = false
  | .non, _ => by simp [pur, toPy, PyData.showable, PyData.hasDict]
  | .bl _, _ => by simp [pur, toPy, PyData.showable, PyData.hasDict]
  | .int i, h => by simp only [rpOk] at h; simp [pur, toPy, PyData.showable, PyData.hasDict, of_decide_eq_true h]
  | .str _, _ => by simp [pur, toPy, PyData.showable, PyData.hasDict]
  | .tup xs, h => by
    simp only [rpOk] at h
    simp only [pur, toPy, PyData.showable, PyData.hasDict]
    exact rpsOk_ok xs h
  | .ob _, h => by simp [rpOk] at h
  | .fn _, h => by simp [rpOk] at h
  | .con _, h => by simp [rpOk] at h
theorem rpsOk_ok : ∀ ds : List D, rpsOk ds = true → purs ds = true ∧ PyData.showableAll (toPys ds) = true ∧ PyData.hasDictAll (toPys ds) = false
  | [], _ => by simp [purs, toPys, PyData.showableAll, PyData.hasDictAll]
  | d :: ds, h => by
    simp only [rpsOk, Bool.and_eq_true] at h
    obtain ⟨a1, a2, a3⟩ := rpOk_ok d h.1
    obtain ⟨b1, b2, b3⟩ := rpsOk_ok ds h.2
    simp [purs, toPys, PyData.showableAll, PyData.hasDictAll, a1, a2, a3, b1, b2, b3]
end
section
variable {X : Cx} {M : Mx} {Wx : WX}
theorem bl_repr (hg : X.A.guards = some []) (hu : X.A.units + 200 < cLine) (σ' : L2.St) : CallR X (.builtin "repr") (rBl M X.K Wx σ' .repr) := by
  intro pins s σ H xs us Q I r hh
  obtain ⟨ds, h, as, hi, rs, p⟩ := hh
  simp only [bltD] at p
  match ds with
  | [] => exact p.elim
  | d :: _ :: _ => cases d <;> exact p.elim
  | [d] =>
    obtain ⟨v, _, rfl, r1, rn⟩ := rs.cons_inv
    obtain rfl := rn.nil_inv
    cases d <;> try (exact p.elim)
    rename_i xs
    obtain ⟨d, hd⟩ : ∃ d, d = D.tup xs := ⟨_, rfl⟩
    simp only [← hd] at p r1
    split at p
    · rename_i hc
      simp only [Bool.and_eq_true, decide_eq_true_eq] at hc
      obtain ⟨⟨h1, h2⟩, h3⟩ := hc
      obtain ⟨k1, k2, k3⟩ := rpOk_ok d h1
      obtain ⟨u, rfl, ru⟩ := Vals.one r
      have dp := Rep.dp (G := M.g X.K) k1 r1
      obtain ⟨bs, rd⟩ := dp.reads I _ _ _ ru
      have sh := shown_st d h1
      have fin : ∀ (h' : Heap) (t tk : Tok), (∀ b o, s.heap.get? b = some o → h'.get? b = some o) → EP X pins σ Q (.str (toPy d).shown t) { s with heap := h', toks := tk } := by
        intro h' t tk hk
        refine ⟨.str (st (rp d)), H, I.kept hk, ⟨t, by rw [sh]⟩, ?_⟩
        exact p _ as H Ext.refl hi (by simp only [Rep])
      have hz : (toPy d).shown.length ≤ sizeLine := by rw [sh, st_len]; exact h3
      rw [hd] at r1
      simp only [Rep] at r1
      obtain ⟨a, vs, rfl, _, _⟩ := r1
      obtain rfl : u = Value.ref a := ru
      exact repr_of_reads' rd k2 (PyData.noDict_hsm k3) hg (by rw [toPy_dep]; omega) (fun _ _ e => e) fin hz
    · exact p.elim
end
end Rf
end

section
namespace Rf
open PySem PySem.Spec PyProof.Rows L2

/-! ## the program's text against the terms -/
structure Ck where
  N : List Str
  fnm : List Str
  cnm : List Str
  gnm : List Str
  nw : List Nat
  snm : List (Str × List Char) := []
  hot : Bool := false
  exn : Option Nat := none
  xc : List Nat := []
  xr : List Nat := []
  inm : List (Str × Int) := []
  /-- where a lambda was given to the def; whether one may be made here -/
  lam : Option Nat := none
  mkl : Bool := false
  /-- the defs that make lambdas, their long names -/
  tf : List ((Str × Option Str) × Str) := []
  /-- the defs to which lambdas are given, by name, by class and name; what a lambda holds, its parameters; its body's check -/
  vnm : List (Nat × Nat × Str) := []
  vmt : List (Nat × Nat × Nat × String) := []
  lms : Nat → Option (List Str × List Str) := fun _ => none
  lamB : Nat → Scope → Expr → Bool := fun _ _ _ => false
/-- .. of the body of a lambda -/
@[reducible] def Ck.plain (C : Ck) (N : List Str) : Ck := { C with N := N, vnm := [], vmt := [], lms := fun _ => none, lamB := fun _ _ _ => false }
def kindB (sc : Scope) (x : Str) (k : NameKind) : Bool := match sc.names.lookup x with
  | some k' => decide (k' = k)
  | none => false
def visB (sc : Scope) (x : Str) : Bool := kindB sc x .local || kindB sc x .cell || kindB sc x .free
def locB (sc : Scope) (x : Str) : Bool := kindB sc x .local || kindB sc x .cell
def glB (sc : Scope) (x : Str) : Bool := kindB sc x .globalImplicit
def okN (x : Str) : Bool := !(x == ("__debug__" : Str)) && !(x == ("__classdict__" : Str)) && !(x == ("__name__" : Str)) && !(x == ("super" : Str))
def isC (l : List Str) (i : Nat) (x : Str) : Bool := match l[i]? with | some y => decide (y = x) | none => false
theorem isC_ok {l : List Str} {i : Nat} {x : Str} (h : isC l i x = true) : l[i]? = some x := by
  unfold isC at h
  split at h
  · rename_i y e; rw [e, of_decide_eq_true h]
  · cases h
theorem kindB_ok {sc : Scope} {x : Str} {k : NameKind} (h : kindB sc x k = true) : sc.names.lookup x = some k := by
  unfold kindB at h
  split at h
  · rename_i k' e; rw [e, of_decide_eq_true h]
  · cases h
def opB : Op → Operator → Bool
  | .add, .Add => true | .sub, .Sub => true | .mul, .Mult => true | .fdiv, .FloorDiv => true | .mod, .Mod => true | _, _ => false
def cpB : Cp → CmpOp → Bool
  | .eq, .Eq => true | .ne, .NotEq => true | .lt, .Lt => true | .le, .LtE => true | .gt, .Gt => true | .ge, .GtE => true | .in_, .In => true | .nin, .NotIn => true | .is_, .Is => true | .isn, .IsNot => true | _, _ => false
theorem opB_ok {o : Op} {op : Operator} (h : opB o op = true) : (o, op) ∈ [(Op.add, Operator.Add), (.sub, .Sub), (.mul, .Mult), (.fdiv, .FloorDiv), (.mod, .Mod)] := by
  cases o <;> cases op <;> simp [opB] at h ⊢
theorem cpB_ok {o : Cp} {op : CmpOp} (h : cpB o op = true) : op = cpOf o := by
  cases o <;> cases op <;> simp [cpB, cpOf] at h ⊢
def cstB : D → Const → Bool
  | .non, .none => true
  | .bl b, .bool c => b == c
  | .int i, .int j => decide (i = j)
  | .str s, .str z => decide (st s = z)
  | _, _ => false
def isSet : Expr → Bool
  | .Set _ _ _ => true
  | _ => false
def isSlice : Expr → Bool
  | .Slice _ _ _ _ => true
  | _ => false
def isStar : Expr → Bool
  | .Starred _ _ => true
  | _ => false
/-- not a call without arguments of a bare name -/
def notBare : Expr → Bool
  | .Call (.Name _ _) [] [] _ => false
  | _ => true
def bfName : Bf → Option (Str × Bool)
  | .repr => some (Str.ofString "repr", true) | .len => some (Str.ofString "len", true) | .abs => some (Str.ofString "abs", true) | .min2 => some (Str.ofString "min", true) | .max2 => some (Str.ofString "max", true)
  | .int => some (Str.ofString "int", false) | .str => some (Str.ofString "str", false) | .list => some (Str.ofString "list", false) | .tuple => some (Str.ofString "tuple", false) | .dict => some (Str.ofString "dict", false)
  | _ => none
def nmB (C : Ck) (sc : Scope) (i : Nat) : Expr → Bool
  | .Name x _ => isC C.N i x && locB sc x
  | _ => false
def tgB (C : Ck) (sc : Scope) : Tg → Expr → Bool
  | .nm i, e => nmB C sc i e
  | .tp is, .Tuple es _ _ => is.length == es.length && ((is.zip es).all fun p => nmB C sc p.1 p.2) && !C.hot
  | _, _ => false
def tgIx : Tg → List Nat
  | .nm i => [i]
  | .tp is => is
def ownP (C : Ck) (own : List Nat) : List (Str × Nat) := own.map fun i => (C.N.getD i Str.empty, i)
def backOf : Expr → Option Expr
  | .Subscript x (.Slice none none (some (.UnaryOp .USub (.Constant (.int 1) _ _) _)) _) _ => some x
  | _ => none
theorem backOf_ok {e x : Expr} (h : backOf e = some x) : ∃ k p1 p2 p3 pos, e = .Subscript x (.Slice none none (some (.UnaryOp .USub (.Constant (.int 1) k p1) p2)) p3) pos := by
  unfold backOf at h
  split at h
  · cases h; exact ⟨_, _, _, _, _, rfl⟩
  · cases h
/-- plain parameters: none, one, two -/
def parsB : Arguments → Option (List Str)
  | ⟨[], [], none, [], [], none, []⟩ => some []
  | ⟨[], [⟨x, none, _⟩], none, [], [], none, []⟩ => some [x]
  | ⟨[], [⟨x, none, _⟩, ⟨y, none, _⟩], none, [], [], none, []⟩ => if (y == x) = false ∧ (x == y) = false then some [x, y] else none
  | _ => none
def capsB (C : Ck) (sc : Scope) : List E → List Str → Bool
  | [], [] => true
  | .var i :: es, y :: ys => isC C.N i y && (kindB sc y .cell || kindB sc y .free) && capsB C sc es ys
  | _, _ => false
def isFunK : ScopeKind → Bool
  | .function => true
  | _ => false
def lamScB (sc scope : Scope) (capN ps : List Str) : Bool :=
  isFunK scope.kind && !scope.isCoroutine && !scope.isGenerator && (scope.names.all fun y => !decide (y.2 = .cell) && (!decide (y.2 = .free) || decide (y.1 ∈ capN) && (kindB sc y.1 .cell || kindB sc y.1 .free)) && (!decide (y.2 = .local) || decide (y.1 ∈ ps))) &&
    (ps.all fun x => kindB scope x .local) && (capN.all fun y => kindB scope y .free) && decide (capN ++ ps).Nodup
def lamA (C : Ck) (sc : Scope) (j : Nat) (cs : List E) : Expr → Bool
  | .Lambda params body scope _ => match C.lms j, parsB params with
    | some (capN, ps), some ps' => decide (ps' = ps) && C.lamB j scope body && capsB C sc cs capN && lamScB sc scope capN ps
    | _, _ => false
  | _ => false
mutual
def chkE (C : Ck) : E → Scope → Expr → Bool
  | .var i, sc, .Name x _ => isC C.N i x && visB sc x && okN x
  | .cst d, _, .Constant c _ _ => cstB d c
  | .glb g, sc, .Name x _ => isC C.gnm g x && glB sc x && okN x
  | .gst g s, sc, .Name x _ => decide (C.snm[g]? = some (x, s)) && glB sc x && okN x
  | .gni g i, sc, .Name x _ => decide (C.inm[g]? = some (x, i)) && glB sc x && okN x
  | .fnv f, sc, .Name x _ => !C.hot && (isC C.fnm f x && glB sc x && okN x)
  | .bin o a b, sc, .BinOp l op r _ => opB o op && chkE C a sc l && chkE C b sc r
  | .neg a, sc, .UnaryOp .USub e _ => chkE C a sc e
  | .cmp o a b, sc, .Compare l [op] [r] _ => cpB o op && chkE C a sc l && chkE C b sc r && !isSet r
  | .chn o o' a b c, sc, .Compare l [op, op'] [m, r] _ => cpB o op && cpB o' op' && chkE C a sc l && chkE C b sc m && chkE C c sc r && !isSet r
  | .and a b, sc, .BoolOp .And (x :: y :: r) p => chkE C a sc x && (match r with | [] => chkE C b sc y | _ => chkE C b sc (.BoolOp .And (y :: r) p))
  | .or a b, sc, .BoolOp .Or (x :: y :: r) p => chkE C a sc x && (match r with | [] => chkE C b sc y | _ => chkE C b sc (.BoolOp .Or (y :: r) p))
  | .not a, sc, .UnaryOp .Not e _ => chkE C a sc e
  | .ife c a b, sc, .IfExp t x y _ => chkE C c sc t && chkE C a sc x && chkE C b sc y
  | .tup es, sc, .Tuple xs _ _ => chkEs C es sc xs
  | .lst es, sc, .List xs _ => chkEs C es sc xs
  | .dic _ ks vs, sc, .Dict ks' vs' _ => ks.isEmpty && vs.isEmpty && ks'.isEmpty && vs'.isEmpty
  | .ix a i, sc, .Subscript x y _ => chkE C a sc x && chkE C i sc y && !isSlice y
  | .slc a lo hi, sc, .Subscript x (.Slice l h none _) _ => chkE C a sc x && (match l with | none => lo.isEmpty | some l => chkEs C lo sc [l]) && (match h with | none => hi.isEmpty | some h => chkEs C hi sc [h])
  | .back a, sc, e => (match backOf e with | some x => chkE C a sc x | none => false)
  | .exf i f, sc, .Attribute (.Name x _) g _ => C.hot && decide (C.exn = some i) && isC C.N i x && visB sc x && okN x && decide (Str.ofString f = g)
  | .fld a f, sc, .Attribute x g _ => !C.hot && (chkE C a sc x && decide (Str.ofString f = g) && notBare x)
  | .new c es, sc, .Call (.Name x _) xs [] _ => !C.hot && (decide (c ∈ C.nw) && isC C.cnm c x && glB sc x && okN x && chkEs C es sc xs)
  | .cav i es, sc, .Call (.Name x _) xs [] _ => !C.hot && (isC C.N i x && visB sc x && okN x && chkEs C es sc xs)
  | .cal f es, sc, .Call (.Name x _) xs [] _ => !C.hot && (isC C.fnm f x && glB sc x && okN x && chkEs C es sc xs)
  | .blt b es, sc, .Call (.Name x _) xs [] _ => !C.hot && (glB sc x && okN x && (match bfName b with
    | some (n, _) => decide (x = n) && chkEs C es sc xs && !es.isEmpty
    | none => (match tyOfB b, xs with
      | some T, [a, .Name y _] => decide (x = Str.ofString "isinstance") && decide (y = Str.ofString T) && glB sc y && okN y && chkEs C es sc [a]
      | _, _ => false)))
  | .met o m es, sc, .Call (.Attribute x g ap) xs [] cp => !C.hot && (chkE C o sc x && decide (Str.ofString m = g) && notBare x && (ap.endLine == cp.line) && chkEs C es sc xs && decide (xs.length < 20))
  | .cml v j es cs, sc, .Call (.Name x _) xs [] _ => !C.hot && (C.mkl && decide ((v, j, x) ∈ C.vnm) && glB sc x && okN x && (match xs with
    | [l] => es.isEmpty && lamA C sc j cs l
    | [a, l] => chkEs C es sc [a] && lamA C sc j cs l
    | _ => false))
  | .mml c o m v j cs, sc, .Call (.Attribute x g ap) [l] [] cp => !C.hot && (C.mkl && chkE C o sc x && decide (Str.ofString m = g) && notBare x && (ap.endLine == cp.line) && decide ((v, j, c, m) ∈ C.vmt) && lamA C sc j cs l)
  | .cvl i es, sc, .Call (.Name x _) xs [] _ => !C.hot && (decide (C.lam = some i) && isC C.N i x && visB sc x && okN x && chkEs C es sc xs)
  | .lc own tg k its cd el, sc, .ListComp elt [⟨tg', iter, ifs, asy⟩] scope _ => (!C.hot && C.lam.isNone) && decide (asy = 0) && blkC C.N sc scope (ownP C own) && tgB C scope tg tg' && (tgIx tg).all (fun i => decide (i ∈ own)) && chkEs C cd scope ifs && decide (cd.length ≤ 1) && chkE C el scope elt &&
      !isSet iter && (match k with
      | .seq => chkEs C its sc [iter] && decide (its.length = 1)
      | .rng1 => (match iter with | .Call (.Name x _) [a] [] _ => decide (x = Str.ofString "range") && glB sc x && chkEs C its sc [a] | _ => false)
      | .rng2 => (match iter with | .Call (.Name x _) [a, b] [] _ => decide (x = Str.ofString "range") && glB sc x && chkEs C its sc [a, b] | _ => false)
      | _ => false)
  | _, _, _ => false
def chkEs (C : Ck) : List E → Scope → List Expr → Bool
  | [], _, [] => true
  | e :: es, sc, x :: xs => chkE C e sc x && !isStar x && chkEs C es sc xs
  | _, _, _ => false
end

/-! ## where a body runs -/
def spI (M : Mx) (K : PySem.W.Frag) (cf : CF) (np f : Nat) : Sp := fun vs H Q E => vs.length = np ∧ ∃ ds h as, HI (M.g K) h as H ∧ Reps (M.g K) as H ds vs ∧ post (M.g K) (fun c d _ H => E c d H) (Rep (M.g K)) as H [] (cf f ds h) Q
/-- the def at a is the f-th function -/
def FnB (P : Program) (w : World) (K : PySem.W.Frag) (mg : Str → Option Value) (base : Heap) (M : Mx) (n : Nat) (cf : CF) (a : Addr) (f : Nat) : Prop :=
  ∃ fd ps np, Binds K fd ps [] ∧ ps.length = np ∧ FnG P w K mg base (L2.CX P w) (2 * n + 1) a fd ps (spI M K cf np f) ∧ ∀ ds h, cf f ds h ≠ .no → ds.length = np
def FnsOk (P : Program) (w : World) (K : PySem.W.Frag) (mg : Str → Option Value) (base : Heap) (M : Mx) (C : Ck) (n : Nat) (cf : CF) : Prop :=
  (∀ f x, C.fnm[f]? = some x → ∃ a, mg x = some (.ref a) ∧ M.fa f = some a) ∧ ∀ f a, M.fa f = some a → PySem.W.keepIn K (.ref a) = true ∧ FnB P w K mg base M n cf a f
def bltNames : List Str := ["len", "abs", "min", "max", "int", "list", "tuple", "isinstance", "str", "bool", "range", "dict", "repr", "sorted", "sum"].map Str.ofString
/-- the classes -/
def ClsOk (P : Program) (w : World) (K : PySem.W.Frag) (mg : Str → Option Value) (base : Heap) (M : Mx) (C : Ck) (n : Nat) (cf : CF) : Prop :=
  ∀ c ci, M.W.cls[c]? = some ci → ∀ Ca, M.ca c = some Ca → Cls K Ca ∧ (∀ f, f ∈ ci.flds → NoAttr K Ca (Str.ofString f)) ∧
    (∀ m f, ci.meths.lookup m = some f → ∃ a, Meth K Ca (Str.ofString m) a ∧ FnB P w K mg base M n cf a f)
def MksOk (P : Program) (w : World) (K : PySem.W.Frag) (mg : Str → Option Value) (base : Heap) (M : Mx) (C : Ck) (n : Nat) (cf : CF) : Prop :=
  ∀ c x, c ∈ C.nw → C.cnm[c]? = some x → ∃ ci f Ca a, M.W.cls[c]? = some ci ∧ ci.ini = some f ∧ M.ca c = some Ca ∧ mg x = some (.ref Ca) ∧ Mk K Ca a ∧ FnB P w K mg base M n cf a f
/-- an exception class, its own __init__ -/
def spX (Ca : Addr) (flds : List String) : Sp := fun vs H Q _ => ∃ a ws, vs = .ref a :: ws ∧ ws.length = flds.length ∧ H a = some (exo a Ca none) ∧
  ∀ d H2, H d = none → d ≠ a → H2 a = some (exo a Ca (some d)) → H2 d = some (exd d ((flds.map Str.ofString).zip ws).reverse) → (∀ b, b ≠ a → b ≠ d → H2 b = H b) → Q .non H2
def ExcsOk (P : Program) (w : World) (K : PySem.W.Frag) (mg : Str → Option Value) (base : Heap) (M : Mx) (C : Ck) : Prop :=
  ∀ c x, c ∈ C.xr → C.cnm[c]? = some x → ∃ Ca fI fd ps, M.ca c = some Ca ∧ mg x = some (.ref Ca) ∧ OexC K Ca ∧ PySem.W.findIn K (.ref Ca) "__init__" = some (some (.ref fI)) ∧ PySem.W.typeIn K (.ref fI) = some (.type "function") ∧
    FnOk P w K mg base CX0 1 fI fd ps (spX Ca (M.W.exf c)) ∧ Binds K fd ps []
/-- what holds of the classes of exceptions, for those who catch -/
structure ExmOk (K : PySem.W.Frag) (mg : Str → Option Value) (M : Mx) (C : Ck) : Prop where
  nm : ∀ k x, k ∈ C.xc → C.cnm[k]? = some x → ∃ Ka, M.ca k = some Ka ∧ mg x = some (.ref Ka)
  exm : ∀ c k Ca Ka, 0 < (M.W.exf c).length → k ∈ C.xc → M.ca c = some Ca → M.ca k = some Ka → PySem.W.exmOne K (.ref Ca) (.ref Ka) = some (M.W.isa c k)
  xf : ∀ c Ca, 0 < (M.W.exf c).length → M.ca c = some Ca → XfC K Ca ∧ ∀ f ∈ M.W.exf c, PySem.W.findIn K (.ref Ca) (Str.ofString f) = some none
/-! ## lambdas -/
/-- what the object of a lambda does, called later on -/
structure LamC (P : Program) (w : World) (K : PySem.W.Frag) (mg : Str → Option Value) (base : Heap) (M : Mx) (k : Nat) (cf : CF) (j : Nat) (caps : List D) (b c' : Addr) (q : Str) (fs : List Addr) (s : Shared) (H : Hp) (as : List Addr) : Prop where
  nb : H b = none
  nf : b ∉ fs
  fn : PySem.W.FnAt b s.heap
  go : ∀ (A : Around) (out : List Env) (s' : Shared) (H' : Hp) (as' : List Addr) (h' : Hs) (us : List Value) (vs : List V) (ds : List D) (Q : VK) (E : XK),
    A.guards = some [] → Room k A → Env0 P w K mg base A out s' H' → Un fs [] H H' s.heap s'.heap → H' c' = some (LamX.CodeO c' q) → Vals vs us → (∀ (n : Nat) (a : Addr), as[n]? = some a → as'[n]? = some a) → HI (M.g K) h' as' H' → Reps (M.g K) as' H' ds vs →
      post (M.g K) (fun c d _ H => E c d H) (Rep (M.g K)) as' H' [] (cf j (caps ++ ds) h') Q → codeAny (model P w) A (.call (.ref b) ⟨us, []⟩) (CR (L2.CX P w) out P w H' s' Q E) s'
/-- the def at a, to which a lambda is given at the end -/
def FnVB (P : Program) (w : World) (K : PySem.W.Frag) (mg : Str → Option Value) (base : Heap) (M : Mx) (n : Nat) (cf : CF) (kl : Nat) (cfl : CF) (a : Addr) (v j k : Nat) : Prop :=
  ∃ fd ps i, Binds K fd ps [] ∧ ps.length = i + 1 ∧ (∀ ds h, cf v ds h ≠ .no → ds.length = i + k) ∧
    ∀ (A : Around) (out : List Env) (s : Shared) (H : Hp) (us : List Value) (vs : List V) (b c' : Addr) (q : Str) (ds caps : List D) (h : Hs) (as : List Addr) (Q : VK) (E : XK),
      A.guards = some [] → Room (2 * n + 1) A → Env0 P w K mg base A out s H → BindsTo s fd ⟨us, []⟩ (ps.zip us) → Vals (vs ++ [.ref b]) us → vs.length = i → LamC P w K mg base M kl cfl j caps b c' q (frs out) s H as → c' ∉ as → H c' = some (LamX.CodeO c' q) →
      HI (M.g K) h as H → Reps (M.g K) as H ds vs → post (M.g K) (fun c d _ H => E c d H) (Rep (M.g K)) as H [] (cf v (ds ++ caps) h) Q →
      codeAny (model P w) A (.call (.ref a) ⟨us, []⟩) (CR (L2.CX P w) out P w H s Q E) s
/-- a lambda's cells and what they hold -/
structure CelC (K : PySem.W.Frag) (M : Mx) (scope : Scope) (cl : List (Str × Addr)) (capN : List Str) (caps : List D) (s : Shared) (H : Hp) (as : List Addr) : Prop where
  cell : ∀ y c, cl.lookup y = some c → (∃ v, s.heap.IsCell c v) ∧ H c = none
  inj : ∀ y z c, cl.lookup y = some c → cl.lookup z = some c → y = z
  has : ∀ y, scope.names.lookup y = some .free → ∃ c, cl.lookup y = some c
  len : caps.length = capN.length
  cap : ∀ (i : Nat) y d, capN[i]? = some y → caps[i]? = some d → ∃ c u v, cl.lookup y = some c ∧ s.heap.IsCell c (some u) ∧ RelV v u ∧ Rep (M.g K) as H d v
/-- the lambdas that may be made, the defs to which they are given -/
structure VirOk (P : Program) (w : World) (K : PySem.W.Frag) (mg : Str → Option Value) (base : Heap) (M : Mx) (C : Ck) (n : Nat) (cf : CF) (kl : Nat) (cfl : CF) : Prop where
  fn : ∀ v j x, (v, j, x) ∈ C.vnm → ∃ a, mg x = some (.ref a) ∧ PySem.W.keepIn K (.ref a) = true ∧ ∀ capN ps, C.lms j = some (capN, ps) → FnVB P w K mg base M n cf kl cfl a v j capN.length
  mt : ∀ v j c m, (v, j, c, m) ∈ C.vmt → ∃ ci, M.W.cls[c]? = some ci ∧ ∀ Ca, M.ca c = some Ca → ∃ a, Meth K Ca (Str.ofString m) a ∧ ∀ capN ps, C.lms j = some (capN, ps) → FnVB P w K mg base M n cf kl cfl a v j capN.length
  make : ∀ j capN ps, C.lms j = some (capN, ps) → ∀ (sc scope : Scope) (body : Expr) (params : Arguments), C.lamB j scope body = true → parsB params = some ps → lamScB sc scope capN ps = true →
    ∀ (q : Str) (cl : List (Str × Addr)) (b c' : Addr) (pm ctv : Value) (fs : List Addr) (s : Shared) (H : Hp) (as : List Addr) (caps : List D),
      s.heap.get? b = some (PySem.W.kla_obj "<lambda>" q params body scope cl pm c' ctv) → H b = none → b ∉ fs → CelC K M scope cl capN caps s H as → LamC P w K mg base M kl cfl j caps b c' q fs s H as
def Mx.z (M : Mx) : Mx := { M with cx := none, xd := none, ex := none, lc := none }
/-- where nothing is handled -/
structure Cool (X : Cx) (M : Mx) (C : Ck) (n : Nat) (cf : CF) : Prop where
  calm : X.calm = true
  room : Room (2 * n + 2) X.A
  nex : C.lam = none → M.ex = none
  nxd : M.xd = none
  ncx : C.lam = none → M.cx = none
  vir : ∃ kl cfl, VirOk X.prog X.w X.K X.mg X.base M.z C n cf kl cfl
  fns : FnsOk X.prog X.w X.K X.mg X.base M.z C n cf
  cls : ClsOk X.prog X.w X.K X.mg X.base M.z C n cf
  mks : MksOk X.prog X.w X.K X.mg X.base M.z C n cf
  exs : ExcsOk X.prog X.w X.K X.mg X.base M C
  exm : ExmOk X.K X.mg M C
structure Cok (X : Cx) (M : Mx) (C : Ck) (sc : Scope) (n : Nat) (Wx : WX) (cf : CF) : Prop where
  cool : C.hot = false → Cool X M C n cf
  exr : ∀ i x f p pos, C.hot = true → C.exn = some i → C.N[i]? = some x → Vis X.env.scope x → okN x = true → PE X (.Attribute (.Name x p) (Str.ofString f) pos) (tE (M.g X.K) Wx (evalE M.W cf M.cx (.exf i f)))
  lmr : ∀ i x es xs p pos, C.hot = false → C.lam = some i → C.N[i]? = some x → Vis X.env.scope x → okN x = true → chkEs C es sc xs = true → PA X xs (tEs (M.g X.K) Wx (evalEs M.W cf M.cx es)) → PE X (.Call (.Name x p) xs [] pos) (tE (M.g X.K) Wx (evalE M.W cf M.cx (.cvl i es)))
  lmk : C.hot = false → C.mkl = true → ∃ c P, X.env.code = .ref c ∧ LamX.TabB X.base X.mg c P ∧ (P, X.env.qual ++ "<lambda>") ∈ M.tb ∧ ∀ p ∈ M.tb, p.1 = P → p.2 = X.env.qual ++ "<lambda>"
  N : X.N = C.N
  nd : X.N.Nodup
  vis : ∀ x, visB sc x = true → Vis X.env.scope x
  loc : ∀ x, locB sc x = true → Loc X.env.scope x ∧ (X.fn x = true ∨ X.env.scope.names.lookup x = some .local)
  gl : ∀ x, glB sc x = true → Gl X x
  scn : ∀ (x : Str) k, k ≠ .free → sc.names.lookup x = some k → X.env.scope.names.lookup x = some k
  scf : ∀ (x : Str), sc.names.lookup x = some .free → X.env.scope.names.lookup x = some .free ∨ X.env.scope.names.lookup x = some .cell
  hu : X.A.units + 200 < cLine
  gd : X.A.guards = some []
  tk : Takes X Wx
  pas : PassesOwn (model X.prog X.w) X.A X.env X.xe
  con : ConOk M X.K
  scr : ScrOk M X.K
  glb : ∀ g x, C.gnm[g]? = some x → ∃ a, X.mg x = some (.ref a) ∧ M.ga g = some a
  bl : ∀ x ∈ bltNames, X.mg x = none
  gs : ∀ (g : Nat) (x : Str) (s : List Char), C.snm[g]? = some (x, s) → ∃ t, X.mg x = some (.str (st s) t)
  gi : ∀ (g : Nat) (x : Str) (i : Int), C.inm[g]? = some (x, i) → ∃ t, X.mg x = some (.int i t)
section
variable {X : Cx} {M : Mx} {C : Ck} {sc : Scope} {n : Nat} {Wx : WX} {cf : CF}
/-! ## the plain relation and that of a frame -/
mutual
theorem rep_g {G G' : Gx} (h1 : G'.fa = G.fa) (h2 : G'.ga = G.ga) {as : List Addr} {H : Hp} : ∀ {d : D} {v : V}, Rep G as H d v → Rep G' as H d v
  | .non, _, h => h
  | .bl _, _, h => h
  | .int _, _, h => h
  | .str _, _, h => h
  | .tup ds, v, h => by
    simp only [Rep] at h ⊢
    obtain ⟨a, vs, e, q1, q2⟩ := h
    exact ⟨a, vs, e, q1, reps_g h1 h2 q2⟩
  | .ob _, _, h => h
  | .fn _, _, h => by simp only [Rep] at h ⊢; rw [h1]; exact h
  | .con _, _, h => by simp only [Rep] at h ⊢; rw [h2]; exact h
theorem reps_g {G G' : Gx} (h1 : G'.fa = G.fa) (h2 : G'.ga = G.ga) {as : List Addr} {H : Hp} : ∀ {ds : List D} {vs : List V}, Reps G as H ds vs → Reps G' as H ds vs
  | [], _, h => h
  | d :: ds, vs, h => by
    simp only [Reps] at h ⊢
    obtain ⟨v, r, e, q1, q2⟩ := h
    exact ⟨v, r, e, rep_g h1 h2 q1, reps_g h1 h2 q2⟩
end
theorem repF_g {G G' : Gx} (h1 : G'.fa = G.fa) (h2 : G'.ga = G.ga) {as : List Addr} {H : Hp} {fs : List (String × D)} {vs : List (Str × V)} (h : RepF G as H fs vs) : RepF G' as H fs vs := Paired.mapP h fun _ _ z => ⟨z.1, rep_g h1 h2 z.2⟩
theorem obR_g {G G' : Gx} (h1 : G'.fa = G.fa) (h2 : G'.ga = G.ga) (h3 : G'.ca = G.ca) {as : List Addr} {H : Hp} {a : Addr} : ∀ {mo : MO}, ObR G as H a mo → ObR G' as H a mo
  | .lst xs, ⟨vs, q1, q2⟩ => ⟨vs, q1, reps_g h1 h2 q2⟩
  | .dic lk false kvs, ⟨vs, q1, q2⟩ => ⟨vs, q1, Paired.mapP q2 fun _ _ z => ⟨z.1, rep_g h1 h2 z.2⟩⟩
  | .dic lk true kvs, ⟨vs, q1, q2⟩ => ⟨vs, q1, Paired.mapP q2 fun _ _ z => ⟨z.1, rep_g h1 h2 z.2⟩⟩
  | .ins c fs, ⟨C, dx, vs, q0, q1, q2⟩ => ⟨C, dx, vs, by rw [h3]; exact q0, q1, repF_g h1 h2 q2⟩
  | .scr ns, q => q
section
variable {M M' : Mx} {K : PySem.W.Frag} {as as' : List Addr} {H H' : Hp} {h h' : Hs}
theorem HI.z (i : HI (M.g K) h as H) : HI (M.z.g K) h as H := ⟨⟨fun _ _ q => (nomatch (show (none : Option (Addr × List (String × D))) = some _ from q)), fun _ _ _ q => (nomatch (show (none : Option (Addr × Str × List Addr)) = some _ from q))⟩, i.tb, i.len, i.nd, fun n mo a e1 e2 => obR_g (G := M.g K) (G' := M.z.g K) rfl rfl rfl (i.ob n mo a e1 e2)⟩
theorem HI.unz (x : XdR (M.g K) as H) (i : HI (M.z.g K) h as H) : HI (M.g K) h as H := ⟨x, i.tb, i.len, i.nd, fun n mo a e1 e2 => obR_g (G := M.z.g K) (G' := M.g K) rfl rfl rfl (i.ob n mo a e1 e2)⟩
theorem rep_z {d : D} {v : V} (r : Rep (M.g K) as H d v) : Rep (M.z.g K) as H d v := rep_g (G := M.g K) (G' := M.z.g K) rfl rfl r
theorem rep_unz {d : D} {v : V} (r : Rep (M.z.g K) as H d v) : Rep (M.g K) as H d v := rep_g (G := M.z.g K) (G' := M.g K) rfl rfl r
theorem reps_z {d : List D} {v : List V} (r : Reps (M.g K) as H d v) : Reps (M.z.g K) as H d v := reps_g (G := M.g K) (G' := M.z.g K) rfl rfl r
theorem post_z {Wx : WX} {σ σ' : L2.St} {r : R D} {Q : VK} {Wx' : WX} (hw : ∀ c d H, Wx c d σ H → Wx' c d σ' H) (x : XdR (M.g K) as H) (p : post (M.g K) Wx (Rep (M.g K)) as H σ r Q) : post (M.z.g K) Wx' (Rep (M.z.g K)) as H σ' r Q := by
  cases r with
  | ok d h => exact fun v as' H' e i r => p v as' H' e (i.unz (x.ext e)) (rep_unz r)
  | exc c fs h => exact fun C dx vs as' H' e i q1 q2 q3 => hw _ _ _ (p C dx vs as' H' e (i.unz (x.ext e)) q1 q2 (repF_g (G := M.z.g K) (G' := M.g K) rfl rfl q3))
  | no => exact p
end
/-- weaker reading -/
theorem pe_imp {e : Expr} {t t' : TE} (h : PE X e t) (i : ∀ σ H Q, t' σ H Q → t σ H Q) : PE X e t' := ⟨fun pins s σ H Q I q => h.run pins s σ H Q I (i σ H Q q)⟩
theorem pt_imp {e : Expr} {t t' : TT} (h : PT X e t) (i : ∀ σ H Q, t' σ H Q → t σ H Q) : PT X e t' := ⟨fun pins s σ H Q I q => h.run pins s σ H Q I (i σ H Q q)⟩
theorem pw_imp {e : Expr} {t t' : TT} (h : PW X e t) (i : ∀ σ H Q, t' σ H Q → t σ H Q) : PW X e t' := ⟨fun wh pins s σ H Q I q => h.run wh pins s σ H Q I (i σ H Q q)⟩
theorem pa_imp {e : List Expr} {t t' : TA} (h : PA X e t) (i : ∀ σ H Q, t' σ H Q → t σ H Q) : PA X e t' := ⟨fun pos pins s σ H Q I q => h.run pos pins s σ H Q I (i σ H Q q)⟩
/-- one part, then the rest -/
theorem then1 {G : Gx} {ev : Sg → Hs → R D} {β : Type} {γ : Type} {Rl : List Addr → Hp → γ → β → Prop} {f : D → Hs → R γ} {σI : Sg} {h : Hs} {as : List Addr} {σ : L2.St} {H : Hp} {Q : β → Hp → Prop}
    (sl : SL G σI as H σ) (hi : HI G h as H) (p : post G Wx Rl as H σ ((ev σI h).bind f) Q) :
    tE G Wx ev σ H fun x H1 => ∃ d h1 as1, ev σI h = .ok d h1 ∧ Ext as H as1 H1 ∧ SL G σI as1 H1 σ ∧ HI G h1 as1 H1 ∧ Rep G as1 H1 d x ∧ post G Wx Rl as1 H1 σ (f d h1) Q :=
  ⟨σI, h, as, sl, hi, (post.bind (Rl := Rep G) p).imp fun v H1 ⟨d, h1, as1, e, x, i, r, q⟩ => ⟨d, h1, as1, e, x, sl.mono x, i, r, q⟩⟩
theorem thens {G : Gx} {ev : Sg → Hs → R (List D)} {β : Type} {γ : Type} {Rl : List Addr → Hp → γ → β → Prop} {f : List D → Hs → R γ} {σI : Sg} {h : Hs} {as : List Addr} {σ : L2.St} {H : Hp} {Q : β → Hp → Prop}
    (sl : SL G σI as H σ) (hi : HI G h as H) (p : post G Wx Rl as H σ ((ev σI h).bind f) Q) :
    tEs G Wx ev σ H fun x H1 => ∃ d h1 as1, ev σI h = .ok d h1 ∧ Ext as H as1 H1 ∧ SL G σI as1 H1 σ ∧ HI G h1 as1 H1 ∧ Reps G as1 H1 d x ∧ post G Wx Rl as1 H1 σ (f d h1) Q :=
  ⟨σI, h, as, sl, hi, (post.bind (Rl := Reps G) p).imp fun v H1 ⟨d, h1, as1, e, x, i, r, q⟩ => ⟨d, h1, as1, e, x, sl.mono x, i, r, q⟩⟩
/-- a test out of a value -/
theorem mkT {e : Expr} {ev : Sg → Hs → R D} (h : PE X e (tE (M.g X.K) Wx ev)) (he : ∀ whole, isTrue e X.env whole = (do let v ← whole; standAt e.pos; holding [v] (truthy v))) : PT X e (tT (M.g X.K) Wx ev) := by
  refine pt_imp (pt_truth h he) ?_
  rintro σ H Q ⟨σI, h, as, sl, hi, p⟩
  obtain ⟨σI', h', as', sl', hi', p'⟩ := then1 sl hi p
  refine ⟨σI', h', as', sl', hi', p'.imp ?_⟩
  rintro v H1 ⟨d, h1, as1, _, x, _, i, r, q⟩
  unfold truthR at q
  cases hb : truth d h1 with
  | none => rw [hb] at q; exact q.elim
  | some b =>
    rw [hb] at q
    exact ⟨b, truth_ok (M := M) i r hb, q b as1 H1 Ext.refl i rfl⟩
end
end Rf
end

section
namespace Rf
open PySem PySem.Spec PyProof.Rows L2

theorem okN_ok {x : Str} (h : okN x = true) : (x == ("__debug__" : Str)) = false ∧ (x == ("__classdict__" : Str)) = false ∧ x ≠ "__name__" := by
  simp only [okN, Bool.and_eq_true, Bool.not_eq_true'] at h
  exact ⟨h.1.1.1, h.1.1.2, fun e => by rw [e, beq_self_eq_true] at h; cases h.1.2⟩
theorem star_one {e : Expr} (h : isStar e = false) (r : List Expr) (env : Env) : starEach (e :: r) env = (false, eval e env) :: starEach r env := by
  cases e <;> first | rfl | (simp [isStar] at h)
theorem chkEs_star {C : Ck} {sc : Scope} {env : Env} {pos : Pos} : ∀ {es : List E} {xs : List Expr}, chkEs C es sc xs = true → (backTo pos (starEach xs env)).any (·.1) = false
  | [], [], _ => rfl
  | e :: es, x :: xs, h => by
    simp only [chkEs, Bool.and_eq_true, Bool.not_eq_true'] at h
    rw [star_one h.1.2]
    show (false || (backTo pos (starEach xs env)).any (·.1)) = false
    rw [chkEs_star h.2]; rfl
  | [], _ :: _, h => by simp [chkEs] at h
  | _ :: _, [], h => by simp [chkEs] at h
theorem bare_ok {o : Expr} {a : Str} {env : Env} {whole : Sem Value} (h : notBare o = true) : attributeBase o a env whole = whole := by
  unfold attributeBase
  split
  · simp [notBare] at h
  · rfl
section
variable {X : Cx} {M : Mx} {C : Ck} {sc : Scope} {n : Nat} {Wx : WX} {cf : CF}
abbrev SE (M : Mx) (X : Cx) (Wx : WX) (cf : CF) (ie : E) (e : Expr) : Prop := PE X e (tE (M.g X.K) Wx (evalE M.W cf M.cx ie)) ∧ PT X e (tT (M.g X.K) Wx (evalE M.W cf M.cx ie))
theorem se_var (K : Cok X M C sc n Wx cf) {i : Nat} {x : Str} {pos : Pos} (h1 : isC C.N i x = true) (h2 : visB sc x = true) (h3 : okN x = true) : PE X (.Name x pos) (tE (M.g X.K) Wx (evalE M.W cf M.cx (.var i))) := by
  obtain ⟨d1, d2, _⟩ := okN_ok h3
  refine pe_imp (pe_var (i := i) (by rw [K.N]; exact isC_ok h1) (K.vis x h2) d1 d2) ?_
  rintro σ H Q ⟨σI, h, as, sl, hi, p⟩
  simp only [evalE] at p
  split at p
  · rename_i d e
    obtain ⟨v, e1, r⟩ := sl.at_ i d e
    exact ⟨v, e1, p v as H Ext.refl hi r⟩
  · exact p.elim
theorem se_cst {d : D} {c : Const} {k : Nat} {pos : Pos} (h : cstB d c = true) : PE X (.Constant c k pos) (tE (M.g X.K) Wx (evalE M.W cf M.cx (.cst d))) := by
  have fin : ∀ {v : V}, PE X (.Constant c k pos) (tC v) → (∀ as H, Rep (M.g X.K) as H d v) → PE X (.Constant c k pos) (tE (M.g X.K) Wx (evalE M.W cf M.cx (.cst d))) := by
    intro v hp hr
    refine pe_imp hp ?_
    rintro σ H Q ⟨σI, h, as, sl, hi, p⟩
    exact p v as H Ext.refl hi (hr as H)
  cases d <;> cases c <;> simp only [cstB, Bool.false_eq_true] at h
  · exact fin pe_non fun _ _ => by simp only [Rep]
  · obtain rfl := eq_of_beq h
    exact fin pe_bl fun _ _ => by simp only [Rep]
  · obtain rfl := of_decide_eq_true h
    exact fin pe_int fun _ _ => by simp only [Rep]
  · obtain rfl := of_decide_eq_true h
    exact fin pe_str fun _ _ => by simp only [Rep]
theorem se_glb (K : Cok X M C sc n Wx cf) {g : Nat} {x : Str} {pos : Pos} (h1 : isC C.gnm g x = true) (h2 : glB sc x = true) (h3 : okN x = true) : PE X (.Name x pos) (tE (M.g X.K) Wx (evalE M.W cf M.cx (.glb g))) := by
  obtain ⟨a, m1, m2⟩ := K.glb g x (isC_ok h1)
  refine pe_imp (pe_glob (v := .ref a) (K.gl x h2) m1 rfl (okN_ok h3).1) ?_
  rintro σ H Q ⟨σI, h, as, sl, hi, p⟩
  exact p _ as H Ext.refl hi (by simp only [Rep]; exact ⟨a, rfl, m2⟩)
theorem se_fnv (K : Cok X M C sc n Wx cf) (hh : C.hot = false) {f : Nat} {x : Str} {pos : Pos} (h1 : isC C.fnm f x = true) (h2 : glB sc x = true) (h3 : okN x = true) : PE X (.Name x pos) (tE (M.g X.K) Wx (evalE M.W cf M.cx (.fnv f))) := by
  obtain ⟨a, m1, m2⟩ := (K.cool hh).fns.1 f x (isC_ok h1)
  refine pe_imp (pe_glob (v := .ref a) (K.gl x h2) m1 rfl (okN_ok h3).1) ?_
  rintro σ H Q ⟨σI, h, as, sl, hi, p⟩
  exact p _ as H Ext.refl hi (by simp only [Rep]; exact ⟨a, rfl, m2⟩)
theorem se_gst (K : Cok X M C sc n Wx cf) {g : Nat} {s : List Char} {x : Str} {pos : Pos} (h1 : C.snm[g]? = some (x, s)) (h2 : glB sc x = true) (h3 : okN x = true) : PE X (.Name x pos) (tE (M.g X.K) Wx (evalE M.W cf M.cx (.gst g s))) := by
  obtain ⟨t, m1⟩ := K.gs g x s h1
  refine pe_imp (pe_glob (v := .str (st s)) (K.gl x h2) m1 ⟨t, rfl⟩ (okN_ok h3).1) ?_
  rintro σ H Q ⟨σI, h, as, sl, hi, p⟩
  exact p _ as H Ext.refl hi (by simp only [Rep])
theorem se_gni (K : Cok X M C sc n Wx cf) {g : Nat} {i : Int} {x : Str} {pos : Pos} (h1 : C.inm[g]? = some (x, i)) (h2 : glB sc x = true) (h3 : okN x = true) : PE X (.Name x pos) (tE (M.g X.K) Wx (evalE M.W cf M.cx (.gni g i))) := by
  obtain ⟨t, m1⟩ := K.gi g x i h1
  refine pe_imp (pe_glob (v := .int i) (K.gl x h2) m1 ⟨t, rfl⟩ (okN_ok h3).1) ?_
  rintro σ H Q ⟨σI, h, as, sl, hi, p⟩
  exact p _ as H Ext.refl hi (by simp only [Rep])
/-- two operands -/
def r2 (M : Mx) (K : PySem.W.Frag) (Wx : WX) (σ : L2.St) (f : D → D → Hs → R D) : R2 := fun x y H Q => ∃ dx dy h as, HI (M.g K) h as H ∧ Rep (M.g K) as H dx x ∧ Rep (M.g K) as H dy y ∧ post (M.g K) Wx (Rep (M.g K)) as H σ (f dx dy h) Q
theorem to2 {ea eb : Sg → Hs → R D} {f : D → D → Hs → R D} {σ : L2.St} {H : Hp} {Q : VK}
    (h : tE (M.g X.K) Wx (fun σ h => (ea σ h).bind fun x h => (eb σ h).bind fun y h => f x y h) σ H Q) :
    ∀ σI h as, SL (M.g X.K) σI as H σ → HI (M.g X.K) h as H → post (M.g X.K) Wx (Rep (M.g X.K)) as H σ ((ea σI h).bind fun x h => (eb σI h).bind fun y h => f x y h) Q → tOp (r2 M X.K Wx σ f) (tE (M.g X.K) Wx ea) (tE (M.g X.K) Wx eb) σ H Q := by
  intro σI h as sl hi p
  obtain ⟨σI', h', as', sl', hi', p'⟩ := then1 sl hi p
  refine ⟨σI', h', as', sl', hi', p'.imp ?_⟩
  rintro x H1 ⟨dx, h1, as1, _, x1, sl1, i1, r1, q1⟩
  obtain ⟨σI', h', as', sl', hi', p'⟩ := then1 sl1 i1 q1
  refine ⟨σI', h', as', sl', hi', p'.imp ?_⟩
  rintro y H2 ⟨dy, h2, as2, _, x2, sl2, i2, rr2, q2⟩
  exact ⟨dx, dy, h2, as2, i2, r1.mono x2, rr2, q2⟩
theorem se_bin (K : Cok X M C sc n Wx cf) {o : Op} {op : Operator} {a b : E} {x y : Expr} {pos : Pos} (ho : opB o op = true) (ha : SE M X Wx cf a x) (hb : SE M X Wx cf b y) : PE X (.BinOp x op y pos) (tE (M.g X.K) Wx (evalE M.W cf M.cx (.bin o a b))) := by
  refine ⟨fun pins s σ H Q I h => ?_⟩
  obtain ⟨σI, h, as, sl, hi, p⟩ := h
  refine (pe_op (r := r2 M X.K Wx σ (opD o)) ?_ ha.1 hb.1).run pins s σ H Q I (to2 (Q := Q) ⟨σI, h, as, sl, hi, p⟩ σI h as sl hi p)
  rintro pins s σ' H x y v u Q I rx ry ⟨dx, dy, h, as, hi, r1, r2, p⟩
  exact opD_ok (Wx := fun c d _ H => Wx c d σ H) (opB_ok ho) I rx ry hi r1 r2 (by cases hh : opD o dx dy h <;> rw [hh] at p <;> exact p)
theorem cmpR (K : Cok X M C sc n Wx cf) (o : Cp) (σ : L2.St) : OpR X (compareOp (cpOf o)) (r2 M X.K Wx σ (cmpA M.W.cons o)) := by
  rintro pins s σ' H x y v u Q I rx ry ⟨dx, dy, h, as, hi, r1, r2, p⟩
  exact cmpA_ok (Wx := fun c d _ H => Wx c d σ H) K.hu K.con I rx ry hi r1 r2 (by cases hh : cmpA M.W.cons o dx dy h <;> rw [hh] at p <;> exact p)
theorem cmpA_bl {cs : List (List D)} {o : Cp} {x y d : D} {h h' : Hs} (e : cmpA cs o x y h = .ok d h') : ∃ b, d = .bl b := by
  have ci : ∀ {g : Int → Int → Bool}, cmpI g x y h = .ok d h' → ∃ b, d = .bl b := by
    intro g e
    unfold cmpI at e
    split at e
    · cases e; exact ⟨_, rfl⟩
    · cases e
  have dc : ∀ {q : List (D × D) × List (D × D)} {g : Bool → Bool}, ((ofO (eqKV q.1 q.2) h).bind fun b h => R.ok (.bl (g b)) h) = .ok d h' → ∃ b, d = .bl b := by
    intro q g e
    cases hh : eqKV q.1 q.2 <;> rw [hh] at e <;> cases e
    exact ⟨_, rfl⟩
  cases o <;> simp only [cmpA, cmpD] at e
  · split at e
    · exact dc (g := fun b => b) e
    · split at e
      · cases e; exact ⟨_, rfl⟩
      · cases e
  · split at e
    · exact dc (g := fun b => !b) e
    · split at e
      · cases e; exact ⟨_, rfl⟩
      · cases e
  · exact ci e
  · exact ci e
  · exact ci e
  · exact ci e
  · cases hh : inD cs x y h <;> rw [hh] at e <;> cases e; exact ⟨_, rfl⟩
  · cases hh : inD cs x y h <;> rw [hh] at e <;> cases e; exact ⟨_, rfl⟩
  · split at e
    · cases e; exact ⟨_, rfl⟩
    · split at e
      · cases e; exact ⟨_, rfl⟩
      · cases e
    · cases e
  · split at e
    · cases e; exact ⟨_, rfl⟩
    · split at e
      · cases e; exact ⟨_, rfl⟩
      · cases e
    · cases e
theorem R.bind_assoc {α β γ : Type} (r : R α) (f : α → Hs → R β) (g : β → Hs → R γ) : (r.bind f).bind g = r.bind fun a h => (f a h).bind g := by
  cases r <;> rfl
theorem mark_ok {o : Cp} {y : Expr} (h : isSet y = false) : behindInMarks (cpOf o) y = false := by
  cases y <;> first | rfl | (simp [isSet] at h)
theorem se_cmp (K : Cok X M C sc n Wx cf) {o : Cp} {op : CmpOp} {a b : E} {x y : Expr} {pos : Pos} (ho : cpB o op = true) (ha : SE M X Wx cf a x) (hb : SE M X Wx cf b y) (hs : isSet y = false) : SE M X Wx cf (.cmp o a b) (.Compare x [op] [y] pos) := by
  obtain rfl := cpB_ok ho
  constructor
  · refine ⟨fun pins s σ H Q I h => ?_⟩
    obtain ⟨σI, h, as, sl, hi, p⟩ := h
    exact (pe_cmpR (cmpR K o σ) ha.1 hb.1 (mark_ok hs)).run pins s σ H Q I (to2 (Q := Q) ⟨σI, h, as, sl, hi, p⟩ σI h as sl hi p)
  · refine ⟨fun pins s σ H Q I h => ?_⟩
    obtain ⟨σI, h, as, sl, hi, p⟩ := h
    refine (pt_cmpR (cmpR K o σ) ha.1 hb.1 (mark_ok hs)).run pins s σ H Q I ?_
    have p2 : post (M.g X.K) Wx (Rep (M.g X.K)) as H σ (evalE M.W cf M.cx (.cmp o a b) σI h) (fun v H1 => ∃ k, v = .bl k ∧ Q k H1) := by
      simp only [evalE] at p ⊢
      cases e1 : evalE M.W cf M.cx a σI h with
      | ok dx h1 =>
        rw [e1] at p
        simp only [R.bind_ok] at p ⊢
        cases e2 : evalE M.W cf M.cx b σI h1 with
        | ok dy h2 =>
          rw [e2] at p
          simp only [R.bind_ok] at p ⊢
          cases e3 : cmpA M.W.cons o dx dy h2 with
          | ok d h3 =>
            rw [e3] at p
            obtain ⟨c, rfl⟩ := cmpA_bl e3
            rintro v as' H' x' i' r'
            simp only [Rep] at r'
            exact ⟨c, r', p c as' H' x' i' rfl⟩
          | exc c fs h3 => rw [e3] at p; exact p
          | no => rw [e3] at p; exact p
        | exc c fs h2 => rw [e2] at p; exact p
        | no => rw [e2] at p; exact p
      | exc c fs h1 => rw [e1] at p; exact p
      | no => rw [e1] at p; exact p
    exact to2 (Q := fun v H1 => ∃ k, v = .bl k ∧ Q k H1) ⟨σI, h, as, sl, hi, p2⟩ σI h as sl hi p2
end
end Rf
end

section
namespace Rf
open PySem PySem.Spec PyProof.Rows L2

theorem mcall {o : Expr} {m : Str} {apos pos : Pos} {xs : List Expr} {env : Env} (hb : attributeBase o m env (eval o env) = eval o env)
    (hf : methodCallForm (xs.length + ([] : List Keyword).length) (backTo pos (starEach xs env)) (backToKw pos (keywordEach [] env)) = true) (hl : (apos.endLine == pos.line) = true) :
    eval (.Call (.Attribute o m apos) xs [] pos) env = (do
      let ov ← eval o env
      standAt apos.atName
      let (f, first) ← holding [ov] (getMethod ov m (do return (← importBound o env).getD true))
      callWith pos f first (backTo pos (starEach xs env)) (backToKw pos (keywordEach [] env))) := by
  refine mcall_of (kws := []) hb fun ov => ?_
  unfold methodCall methodCallPos calleeOf
  rw [hf]
  simp only [if_true, Bool.not_true, Bool.false_or, hl]
  rfl
theorem chkEs_form {C : Ck} {sc : Scope} {env : Env} {pos : Pos} : ∀ {es : List E} {xs : List Expr}, chkEs C es sc xs = true → (backTo pos (starEach xs env)).all (fun x => !x.1) = true
  | [], [], _ => rfl
  | e :: es, x :: xs, h => by
    simp only [chkEs, Bool.and_eq_true, Bool.not_eq_true'] at h
    rw [star_one h.1.2]
    show (!false && (backTo pos (starEach xs env)).all (fun x => !x.1)) = true
    rw [chkEs_form h.2]; rfl
  | [], _ :: _, h => by simp [chkEs] at h
  | _ :: _, [], h => by simp [chkEs] at h
section
variable {X : Cx} {M : Mx} {C : Ck} {sc : Scope} {n : Nat} {Wx : WX} {cf : CF}
theorem se_chn (K : Cok X M C sc n Wx cf) {o o' : Cp} {op op' : CmpOp} {a b c : E} {x y z : Expr} {pos : Pos} (ho : cpB o op = true) (ho' : cpB o' op' = true) (ha : SE M X Wx cf a x) (hb : SE M X Wx cf b y) (hc : SE M X Wx cf c z) (hs : isSet z = false) :
    SE M X Wx cf (.chn o o' a b c) (.Compare x [op, op'] [y, z] pos) := by
  obtain rfl := cpB_ok ho
  obtain rfl := cpB_ok ho'
  have key : ∀ {σ H} {Q : VK} {σI h as}, SL (M.g X.K) σI as H σ → HI (M.g X.K) h as H → post (M.g X.K) Wx (Rep (M.g X.K)) as H σ (evalE M.W cf M.cx (.chn o o' a b c) σI h) Q →
      tChain (r2 M X.K Wx σ (cmpA M.W.cons o)) (r2 M X.K Wx σ (cmpA M.W.cons o')) (tE (M.g X.K) Wx (evalE M.W cf M.cx a)) (tE (M.g X.K) Wx (evalE M.W cf M.cx b)) (tE (M.g X.K) Wx (evalE M.W cf M.cx c)) σ H Q := by
    intro σ H Q σI h as sl hi p
    simp only [evalE] at p
    obtain ⟨q1, q2, q3, sl', hi', p'⟩ := then1 sl hi p
    refine ⟨q1, q2, q3, sl', hi', p'.imp ?_⟩
    rintro x H1 ⟨dx, h1, as1, _, x1, sl1, i1, r1, p1⟩
    obtain ⟨q1, q2, q3, sl', hi', p'⟩ := then1 sl1 i1 p1
    refine ⟨q1, q2, q3, sl', hi', p'.imp ?_⟩
    rintro y H2 ⟨dy, h2, as2, _, x2, sl2, i2, r2, p2⟩
    refine ⟨dx, dy, h2, as2, i2, r1.mono x2, r2, (post.bind (Rl := Rep (M.g X.K)) p2).imp ?_⟩
    rintro z H3 ⟨dz, h3, as3, e3, x3, i3, r3, p3⟩
    obtain ⟨k, rfl⟩ := cmpA_bl e3
    simp only [Rep] at r3
    refine ⟨k, r3, ?_⟩
    cases k with
    | false => exact p3 _ as3 H3 Ext.refl i3 (by simp only [Rep])
    | true =>
      rw [if_pos rfl]
      obtain ⟨q1, q2, q3, sl', hi', p'⟩ := then1 (sl2.mono x3) i3 p3
      refine ⟨q1, q2, q3, sl', hi', p'.imp ?_⟩
      rintro w H4 ⟨dw, h4, as4, _, x4, sl4, i4, r4, p4⟩
      exact ⟨dy, dw, h4, as4, i4, (r2.mono x3).mono x4, r4, p4⟩
  have hm : lastMarks [cpOf o, cpOf o'] [y, z] = false := by
    show lastMarks [cpOf o'] [z] = false
    exact mark_ok hs
  constructor
  · refine ⟨fun pins s σ H Q I h => ?_⟩
    obtain ⟨σI, h, as, sl, hi, p⟩ := h
    exact (pe_chain (cmpR K o σ) (cmpR K o' σ) ha.1 hb.1 hc.1 hm).run pins s σ H Q I (key sl hi p)
  · refine ⟨fun pins s σ H Q I h => ?_⟩
    obtain ⟨σI, h, as, sl, hi, p⟩ := h
    refine (pt_chain (cmpR K o σ) (cmpR K o' σ) ha.1 hb.1 hc.1 hm).run pins s σ H Q I (key (Q := fun v H1 => ∃ k, v = .bl k ∧ Q k H1) sl hi ?_)
    cases e : evalE M.W cf M.cx (.chn o o' a b c) σI h with
    | ok d h1 =>
      rw [e] at p
      have : ∃ k, d = .bl k := by
        simp only [evalE] at e
        cases e1 : evalE M.W cf M.cx a σI h <;> rw [e1] at e <;> try cases e
        simp only [R.bind_ok] at e
        rename_i h1
        cases e2 : evalE M.W cf M.cx b σI h1 <;> rw [e2] at e <;> try cases e
        simp only [R.bind_ok] at e
        rename_i dy h2
        cases e3 : cmpA M.W.cons o _ dy h2 <;> rw [e3] at e <;> try cases e
        simp only [R.bind_ok] at e
        rename_i dz h3
        split at e
        · cases e4 : evalE M.W cf M.cx c σI h3 <;> rw [e4] at e <;> try cases e
          simp only [R.bind_ok] at e
          exact cmpA_bl e
        · cases e; exact ⟨_, rfl⟩
        · cases e
      obtain ⟨k, rfl⟩ := this
      rintro v as' H' x' i' r'
      simp only [Rep] at r'
      exact ⟨k, r', p k as' H' x' i' rfl⟩
    | exc c fs h1 => rw [e] at p; exact p
    | no => rw [e] at p; exact p
/-- and -/
theorem se_and (K : Cok X M C sc n Wx cf) {a b : E} {x y : Expr} {r : List Expr} {pos : Pos} (ha : SE M X Wx cf a x) (hb : PE X (.BoolOp .And (y :: r) pos) (tE (M.g X.K) Wx (evalE M.W cf M.cx b)))
    (hw : PW X (.BoolOp .And (y :: r) pos) (tT (M.g X.K) Wx (evalE M.W cf M.cx b))) :
    PE X (.BoolOp .And (x :: y :: r) pos) (tE (M.g X.K) Wx (evalE M.W cf M.cx (.and a b))) ∧ PW X (.BoolOp .And (x :: y :: r) pos) (tT (M.g X.K) Wx (evalE M.W cf M.cx (.and a b))) := by
  constructor
  · refine pe_imp (pe_andT ha.1 hb) ?_
    rintro σ H Q ⟨σI, h, as, sl, hi, p⟩
    simp only [evalE] at p
    obtain ⟨q1, q2, q3, sl', hi', p'⟩ := then1 sl hi p
    refine ⟨q1, q2, q3, sl', hi', p'.imp ?_⟩
    rintro x H1 ⟨dx, h1, as1, _, x1, sl1, i1, r1, p1⟩
    obtain ⟨t, et, p2⟩ := post.ofO p1
    refine ⟨t, truth_ok (M := M) i1 r1 et, ?_⟩
    cases t with
    | true => exact ⟨σI, h1, as1, sl1, i1, p2⟩
    | false => exact p2 x as1 H1 Ext.refl i1 r1
  · refine pw_imp (pw_and ha.2 hw) ?_
    rintro σ H Q ⟨σI, h, as, sl, hi, p⟩
    simp only [evalE] at p
    rw [R.bind_assoc] at p
    refine ⟨σI, h, as, sl, hi, ?_⟩
    cases e : evalE M.W cf M.cx a σI h with
    | exc c fs h1 => rw [e] at p; exact p
    | no => rw [e] at p; exact p
    | ok d h1 =>
      rw [e] at p
      simp only [R.bind_ok] at p ⊢
      unfold truthR at p ⊢
      cases et : truth d h1 with
      | none => rw [et] at p; exact p
      | some t =>
        rw [et] at p
        rintro k as1 H1 x1 i1 rfl
        cases t with
        | true => exact ⟨σI, h1, as1, sl.mono x1, i1, p.mono x1⟩
        | false =>
          simp only [ofO_some, R.bind_ok, Bool.false_eq_true, if_false] at p
          rw [et] at p
          exact p false as1 H1 x1 i1 rfl
theorem se_or (K : Cok X M C sc n Wx cf) {a b : E} {x y : Expr} {r : List Expr} {pos : Pos} (ha : SE M X Wx cf a x) (hb : PE X (.BoolOp .Or (y :: r) pos) (tE (M.g X.K) Wx (evalE M.W cf M.cx b)))
    (hw : PW X (.BoolOp .Or (y :: r) pos) (tT (M.g X.K) Wx (evalE M.W cf M.cx b))) :
    PE X (.BoolOp .Or (x :: y :: r) pos) (tE (M.g X.K) Wx (evalE M.W cf M.cx (.or a b))) ∧ PW X (.BoolOp .Or (x :: y :: r) pos) (tT (M.g X.K) Wx (evalE M.W cf M.cx (.or a b))) := by
  constructor
  · refine pe_imp (pe_orT ha.1 hb) ?_
    rintro σ H Q ⟨σI, h, as, sl, hi, p⟩
    simp only [evalE] at p
    obtain ⟨q1, q2, q3, sl', hi', p'⟩ := then1 sl hi p
    refine ⟨q1, q2, q3, sl', hi', p'.imp ?_⟩
    rintro x H1 ⟨dx, h1, as1, _, x1, sl1, i1, r1, p1⟩
    obtain ⟨t, et, p2⟩ := post.ofO p1
    refine ⟨t, truth_ok (M := M) i1 r1 et, ?_⟩
    cases t with
    | false => exact ⟨σI, h1, as1, sl1, i1, p2⟩
    | true => exact p2 x as1 H1 Ext.refl i1 r1
  · refine pw_imp (pw_or ha.2 hw) ?_
    rintro σ H Q ⟨σI, h, as, sl, hi, p⟩
    simp only [evalE] at p
    rw [R.bind_assoc] at p
    refine ⟨σI, h, as, sl, hi, ?_⟩
    cases e : evalE M.W cf M.cx a σI h with
    | exc c fs h1 => rw [e] at p; exact p
    | no => rw [e] at p; exact p
    | ok d h1 =>
      rw [e] at p
      simp only [R.bind_ok] at p ⊢
      unfold truthR at p ⊢
      cases et : truth d h1 with
      | none => rw [et] at p; exact p
      | some t =>
        rw [et] at p
        rintro k as1 H1 x1 i1 rfl
        cases t with
        | false => exact ⟨σI, h1, as1, sl.mono x1, i1, p.mono x1⟩
        | true =>
          simp only [ofO_some, R.bind_ok, if_true] at p
          rw [et] at p
          exact p true as1 H1 x1 i1 rfl
theorem se_not (K : Cok X M C sc n Wx cf) {a : E} {x : Expr} {pos : Pos} (ha : SE M X Wx cf a x) : SE M X Wx cf (.not a) (.UnaryOp .Not x pos) := by
  constructor
  · refine pe_imp (pe_notT ha.1) ?_
    rintro σ H Q ⟨σI, h, as, sl, hi, p⟩
    simp only [evalE] at p
    obtain ⟨q1, q2, q3, sl', hi', p'⟩ := then1 sl hi p
    refine ⟨q1, q2, q3, sl', hi', p'.imp ?_⟩
    rintro x H1 ⟨dx, h1, as1, _, x1, sl1, i1, r1, p1⟩
    obtain ⟨t, et, p2⟩ := post.ofO p1
    exact ⟨t, truth_ok (M := M) i1 r1 et, p2 _ as1 H1 Ext.refl i1 (by simp only [Rep])⟩
  · refine pt_imp (pt_not ha.2) ?_
    rintro σ H Q ⟨σI, h, as, sl, hi, p⟩
    simp only [evalE] at p
    rw [R.bind_assoc] at p
    refine ⟨σI, h, as, sl, hi, ?_⟩
    cases e : evalE M.W cf M.cx a σI h with
    | exc c fs h1 => rw [e] at p; exact p
    | no => rw [e] at p; exact p
    | ok d h1 =>
      rw [e] at p
      simp only [R.bind_ok] at p ⊢
      unfold truthR at p ⊢
      cases et : truth d h1 with
      | none => rw [et] at p; exact p
      | some t =>
        rw [et] at p
        rintro k as1 H1 x1 i1 rfl
        exact p (!t) as1 H1 x1 i1 rfl
theorem se_ife (K : Cok X M C sc n Wx cf) {c a b : E} {z x y : Expr} {pos : Pos} (hc : SE M X Wx cf c z) (ha : SE M X Wx cf a x) (hb : SE M X Wx cf b y) : SE M X Wx cf (.ife c a b) (.IfExp z x y pos) := by
  constructor
  · refine pe_imp (pe_ifExp hc.2 ha.1 hb.1) ?_
    rintro σ H Q ⟨σI, h, as, sl, hi, p⟩
    simp only [evalE] at p
    rw [← R.bind_assoc] at p
    refine ⟨σI, h, as, sl, hi, (post.bind (Rl := rB) p).imp ?_⟩
    rintro k H1 ⟨d, h1, as1, _, x1, i1, rfl, p1⟩
    cases d with
    | true => exact ⟨σI, h1, as1, sl.mono x1, i1, p1⟩
    | false => exact ⟨σI, h1, as1, sl.mono x1, i1, p1⟩
  · have pt : PT X (.IfExp z x y pos) (fun σ H Q => tT (M.g X.K) Wx (evalE M.W cf M.cx c) σ H fun k H1 => if k = true then tT (M.g X.K) Wx (evalE M.W cf M.cx a) σ H1 Q else tT (M.g X.K) Wx (evalE M.W cf M.cx b) σ H1 Q) := by
      refine ⟨fun pins s σ H Q I h => ?_⟩
      refine isTrue_IfExp (thn (hc.2.run pins s σ H _ I h) fun d s1 ⟨H1, I1, q1⟩ => ?_)
      cases d with
      | true => exact ha.2.run pins s1 σ H1 Q I1 q1
      | false => exact hb.2.run pins s1 σ H1 Q I1 q1
    refine pt_imp pt ?_
    rintro σ H Q ⟨σI, h, as, sl, hi, p⟩
    simp only [evalE] at p
    rw [← R.bind_assoc, R.bind_assoc] at p
    refine ⟨σI, h, as, sl, hi, (post.bind (Rl := rB) p).imp ?_⟩
    rintro k H1 ⟨d, h1, as1, _, x1, i1, rfl, p1⟩
    cases d with
    | true => exact ⟨σI, h1, as1, sl.mono x1, i1, p1⟩
    | false => exact ⟨σI, h1, as1, sl.mono x1, i1, p1⟩
/-- displays -/
theorem se_tup {es : List E} {xs : List Expr} {k : Nat} {pos : Pos} (h : PA X xs (tEs (M.g X.K) Wx (evalEs M.W cf M.cx es))) : PE X (.Tuple xs k pos) (tE (M.g X.K) Wx (evalE M.W cf M.cx (.tup es))) := by
  refine pe_imp (pe_tup h) ?_
  rintro σ H Q ⟨σI, h, as, sl, hi, p⟩
  simp only [evalE] at p
  obtain ⟨q1, q2, q3, sl', hi', p'⟩ := thens sl hi p
  refine ⟨q1, q2, q3, sl', hi', p'.imp ?_⟩
  rintro vs H1 ⟨ds, h1, as1, _, x1, sl1, i1, r1, p1⟩
  split at p1
  · rename_i hl
    refine ⟨by rw [← r1.length]; exact hl, fun q hq => p1 _ as1 _ (ext_tup hq) (i1.other hq) ?_⟩
    simp only [Rep]
    exact ⟨q, vs, rfl, upd_same, r1.mono (ext_tup hq)⟩
  · exact p1.elim
theorem se_lst {es : List E} {xs : List Expr} {pos : Pos} (h : PA X xs (tEs (M.g X.K) Wx (evalEs M.W cf M.cx es))) : PE X (.List xs pos) (tE (M.g X.K) Wx (evalE M.W cf M.cx (.lst es))) := by
  refine pe_imp (pe_lst h) ?_
  rintro σ H Q ⟨σI, h, as, sl, hi, p⟩
  simp only [evalE] at p
  obtain ⟨q1, q2, q3, sl', hi', p'⟩ := thens sl hi p
  refine ⟨q1, q2, q3, sl', hi', p'.imp ?_⟩
  rintro vs H1 ⟨ds, h1, as1, _, x1, sl1, i1, r1, p1⟩
  split at p1
  · rename_i hl
    refine ⟨by rw [← r1.length]; exact hl, fun q hq => p1 _ (as1 ++ [q]) _ (ext_new hq) (i1.new hq ⟨vs, upd_same, r1.mono (ext_new hq)⟩) ?_⟩
    simp only [Rep]
    exact ⟨q, rfl, by rw [← i1.len]; simp⟩
  · exact p1.elim
theorem se_dic {t : Bool} {pos : Pos} : PE X (.Dict [] [] pos) (tE (M.g X.K) Wx (evalE M.W cf M.cx (.dic t [] []))) := by
  cases t with
  | false =>
    refine pe_imp pe_dnewK ?_
    rintro σ H Q ⟨σI, h, as, sl, hi, p⟩
    simp only [evalE] at p
    refine fun q hq => p _ (as ++ [q]) _ (ext_new hq) (hi.new hq ⟨[], ?_, .nil⟩) ?_
    · simp only [lkd, Bool.false_eq_true, if_false]; exact upd_same
    · simp only [Rep]
      exact ⟨q, rfl, by rw [← hi.len]; simp⟩
  | true =>
    refine pe_imp pe_dnewT ?_
    rintro σ H Q ⟨σI, h, as, sl, hi, p⟩
    simp only [evalE] at p
    refine fun q hq => p _ (as ++ [q]) _ (ext_new hq) (hi.new hq ⟨[], ?_, .nil⟩) ?_
    · simp only [lkd, Bool.false_eq_true, if_false]; exact upd_same
    · simp only [Rep]
      exact ⟨q, rfl, by rw [← hi.len]; simp⟩
end
end Rf
end

section
namespace Rf
open PySem PySem.Spec PyProof.Rows L2

theorem plainIx {y : Expr} (h : isSlice y = false) : PlainIx y := by
  intro o i
  cases y <;> first | rfl | (simp [isSlice] at h)
section
variable {X : Cx} {M : Mx} {C : Ck} {sc : Scope} {n : Nat} {Wx : WX} {cf : CF}
theorem se_ix (K : Cok X M C sc n Wx cf) {a b : E} {x y : Expr} {pos : Pos} (ha : SE M X Wx cf a x) (hb : SE M X Wx cf b y) (hs : isSlice y = false) : PE X (.Subscript x y pos) (tE (M.g X.K) Wx (evalE M.W cf M.cx (.ix a b))) := by
  refine ⟨fun pins s σ H Q I h => ?_⟩
  obtain ⟨σI, h, as, sl, hi, p⟩ := h
  simp only [evalE] at p
  -- is it a dict
  by_cases hd : ∃ m h1 dy h2 lk t kvs, evalE M.W cf M.cx a σI h = .ok (.ob m) h1 ∧ evalE M.W cf M.cx b σI h1 = .ok dy h2 ∧ h2[m]? = some (.dic lk t kvs)
  · obtain ⟨m, h1, dy, h2, lk, t, kvs, e1, e2, e3⟩ := hd
    refine (pe_dget (by have := K.hu; omega) ha.1 hb.1 (plainIx hs)).run pins s σ H Q I ?_
    obtain ⟨q1, q2, q3, sl', hi', p'⟩ := then1 sl hi p
    refine ⟨q1, q2, q3, sl', hi', p'.imp ?_⟩
    rintro x H1 ⟨dx, h1', as1, e1', x1, sl1, i1, r1, p1⟩
    rw [e1] at e1'; cases e1'
    obtain ⟨q1, q2, q3, sl', hi', p'⟩ := then1 sl1 i1 p1
    refine ⟨q1, q2, q3, sl', hi', p'.imp ?_⟩
    rintro y H2 ⟨dy', h2', as2, e2', x2, sl2, i2, rr, p2⟩
    rw [e2] at e2'; cases e2'
    have r1' := r1.mono x2
    simp only [Rep] at r1'
    obtain ⟨ad, rfl, ea⟩ := r1'
    simp only [ixD, e3] at p2
    split at p2
    · rename_i hk
      obtain ⟨o, g, ho⟩ := dget_ok (i2.ob m _ ad e3 ea) hk rr
      rcases ho with ⟨e4, _⟩ | ⟨d, v, e4, rfl, rv⟩
      · rw [e4] at p2; exact p2.elim
      · rw [e4] at p2
        exact ⟨ad, v, rfl, g, p2 v as2 H2 Ext.refl i2 rv⟩
    · exact p2.elim
  · refine (pe_ix (ix8 (M := M) (Wx := Wx) K.con σ) ha.1 hb.1 (plainIx hs)).run pins s σ H Q I ?_
    obtain ⟨q1, q2, q3, sl', hi', p'⟩ := then1 sl hi p
    refine ⟨q1, q2, q3, sl', hi', p'.imp ?_⟩
    rintro x H1 ⟨dx, h1, as1, e1, x1, sl1, i1, r1, p1⟩
    obtain ⟨q1, q2, q3, sl', hi', p'⟩ := then1 sl1 i1 p1
    refine ⟨q1, q2, q3, sl', hi', p'.imp ?_⟩
    rintro y H2 ⟨dy, h2, as2, e2, x2, sl2, i2, rr, p2⟩
    exact ⟨dx, dy, h2, as2, i2, r1.mono x2, rr, fun m lk t kvs e e3 => hd ⟨m, h1, dy, h2, lk, t, kvs, by rw [← e]; exact e1, e2, e3⟩, p2⟩
/-- a part of a slice -/
theorem po_of {lo : List E} {l : Option Expr} (h : (match l with | none => lo = [] | some e => ∃ a, lo = [a] ∧ SE M X Wx cf a e)) :
    PO X l (fun σ H Q => ∃ σI h as, SL (M.g X.K) σI as H σ ∧ HI (M.g X.K) h as H ∧ post (M.g X.K) Wx (fun _ _ (a b : Option Int) => a = b) as H σ ((evalEs M.W cf M.cx lo σI h).bind fun l h => ofO (optI l) h) Q) := by
  cases l with
  | none =>
    subst h
    refine ⟨fun pins s σ H Q I h => ?_⟩
    obtain ⟨σI, h, as, sl, hi, p⟩ := h
    exact po_none.run pins s σ H Q I (p none as H Ext.refl hi rfl)
  | some e =>
    obtain ⟨a, rfl, ha⟩ := h
    refine ⟨fun pins s σ H Q I h => ?_⟩
    obtain ⟨σI, h, as, sl, hi, p⟩ := h
    simp only [evalEs, R.bind_assoc] at p
    refine (po_some ha.1).run pins s σ H Q I ?_
    obtain ⟨q1, q2, q3, sl', hi', p'⟩ := then1 (Rl := fun _ _ (a b : Option Int) => a = b) sl hi p
    refine ⟨q1, q2, q3, sl', hi', p'.imp ?_⟩
    rintro x H1 ⟨dx, h1, as1, e1, x1, sl1, i1, r1, p1⟩
    simp only [R.bind_ok] at p1
    cases dx with
    | int i =>
      simp only [Rep] at r1
      exact ⟨i, r1, p1 (some i) as1 H1 Ext.refl i1 rfl⟩
    | _ => exact p1.elim
theorem se_slc (K : Cok X M C sc n Wx cf) {a : E} {lo hi : List E} {x : Expr} {l u : Option Expr} {p2 pos : Pos} (ha : SE M X Wx cf a x) (hl : (match l with | none => lo = [] | some e => ∃ a, lo = [a] ∧ SE M X Wx cf a e)) (hu : (match u with | none => hi = [] | some e => ∃ a, hi = [a] ∧ SE M X Wx cf a e)) :
    PE X (.Subscript x (.Slice l u none p2) pos) (tE (M.g X.K) Wx (evalE M.W cf M.cx (.slc a lo hi))) := by
  refine ⟨fun pins s σ H Q I h => ?_⟩
  obtain ⟨σI, h, as, sl, hi', p⟩ := h
  simp only [evalE] at p
  refine (pe_slice (sl8 (M := M) (Wx := Wx) σ) ha.1 (po_of hl) (po_of hu)).run pins s σ H Q I ?_
  obtain ⟨q1, q2, q3, sl', hi', p'⟩ := then1 sl hi' p
  refine ⟨q1, q2, q3, sl', hi', p'.imp ?_⟩
  rintro x H1 ⟨dx, h1, as1, e1, x1, sl1, i1, r1, p1⟩
  rw [← R.bind_assoc] at p1
  refine ⟨σI, h1, as1, sl1, i1, (post.bind (Rl := fun _ _ (a b : Option Int) => a = b) p1).imp ?_⟩
  rintro o H2 ⟨o', h2, as2, e2, x2, i2, rfl, p2⟩
  rw [← R.bind_assoc] at p2
  refine ⟨σI, h2, as2, sl1.mono x2, i2, (post.bind (Rl := fun _ _ (a b : Option Int) => a = b) p2).imp ?_⟩
  rintro o2 H3 ⟨o2', h3, as3, e3, x3, i3, rfl, p3⟩
  exact ⟨dx, h3, as3, i3, (r1.mono x2).mono x3, p3⟩
theorem se_back {a : E} {x : Expr} {k : Nat} {p1 p2 p3 pos : Pos} (ha : SE M X Wx cf a x) : PE X (.Subscript x (.Slice none none (some (.UnaryOp .USub (.Constant (.int 1) k p1) p2)) p3) pos) (tE (M.g X.K) Wx (evalE M.W cf M.cx (.back a))) := by
  refine pe_imp (pe_revL ha.1) ?_
  rintro σ H Q ⟨σI, h, as, sl, hi, p⟩
  simp only [evalE] at p
  obtain ⟨q1, q2, q3, sl', hi', p'⟩ := then1 sl hi p
  refine ⟨q1, q2, q3, sl', hi', p'.imp ?_⟩
  rintro x H1 ⟨dx, h1, as1, e1, x1, sl1, i1, r1, p1⟩
  split at p1
  · rename_i m
    simp only [Rep] at r1
    obtain ⟨ad, rfl, ea⟩ := r1
    split at p1
    · rename_i xs e2
      obtain ⟨vs, q1, q2⟩ := i1.ob m _ ad e2 ea
      refine ⟨ad, vs, rfl, SqL.of q1, fun q hq => ?_⟩
      refine p1 _ (as1 ++ [q]) _ (ext_new hq) (i1.new hq ⟨_, upd_same, (Reps.reverse q2).mono (ext_new hq)⟩) ?_
      simp only [Rep]
      exact ⟨q, rfl, by rw [← i1.len]; simp⟩
    · exact p1.elim
  · exact p1.elim
theorem se_fld (K : Cok X M C sc n Wx cf) (hh : C.hot = false) {a : E} {f : String} {x : Expr} {pos : Pos} (ha : SE M X Wx cf a x) (hb : notBare x = true) : PE X (.Attribute x (Str.ofString f) pos) (tE (M.g X.K) Wx (evalE M.W cf M.cx (.fld a f))) := by
  refine pe_imp (pe_fld ha.1 (bare_ok hb)) ?_
  rintro σ H Q ⟨σI, h, as, sl, hi, p⟩
  simp only [evalE] at p
  obtain ⟨q1, q2, q3, sl', hi', p'⟩ := then1 sl hi p
  refine ⟨q1, q2, q3, sl', hi', p'.imp ?_⟩
  rintro x H1 ⟨dx, h1, as1, e1, x1, sl1, i1, r1, p1⟩
  cases dx with
  | ob m =>
    simp only [Rep] at r1
    obtain ⟨ad, rfl, ea⟩ := r1
    simp only [fldD] at p1
    split at p1
    · rename_i c fs e2
      split at p1
      · rename_i hf
        unfold hasF at hf
        split at hf
        · rename_i ci e3
          obtain ⟨Ca, dx, vs, ec, eo, rf⟩ := i1.ob m _ ad e2 ea
          obtain ⟨c1, c2, _⟩ := (K.cool hh).cls c ci e3 Ca ec
          rcases rf.lookup f with ⟨e4, _⟩ | ⟨d, v, e4, e5, rv⟩
          · rw [e4] at p1; exact p1.elim
          · rw [e4] at p1
            exact ⟨ad, Ca, dx, vs, v, rfl, eo, c1, c2 f (List.contains_iff_mem.mp hf), e5, p1 v as1 H1 Ext.refl i1 rv⟩
        · cases hf
      · exact p1.elim
    · exact p1.elim
  | _ => exact p1.elim
theorem make_guards {A : Around} {C : Addr} {us : List Value} {kw : List (Str × Value)} : (A.under (.builtin "type.__call__" ⟨.ref C :: us, kw⟩)).guards = A.guards := by
  first | rfl | simp [Around.under, Code.guards, Code.isGuard, guardIds, pushGuards]
/-- a call's end -/
theorem run_cal (K : Cok X M C sc n Wx cf) (hh : C.hot = false) {a : Addr} {f : Nat} (B : FnB X.prog X.w X.K X.mg X.base M.z n cf a f)
    {pins : List (Addr × Obj)} {s : Shared} {σ : L2.St} {H : Hp} {Q : VK} {vs : List V} {us : List Value} {ds : List D} {h : Hs} {as : List Addr} (I : Inv X pins σ H s) (rv : Vals vs us) (hi : HI (M.g X.K) h as H) (rs : Reps (M.g X.K) as H ds vs)
    (p : post (M.g X.K) Wx (Rep (M.g X.K)) as H σ (cf f ds h) Q) : wpAny (model X.prog X.w) X.A (call (.ref a) us) (EP X pins σ Q) X.xe s := by
  obtain ⟨fd, ps, np, hb, hp, F, hl⟩ := B
  have hn : cf f ds h ≠ .no := fun e => by rw [e] at p; exact p
  exact run_G (E := WE Wx) F K.gd ((K.cool hh).room.mono (by omega)) hb (passAt K.tk σ) I rv ⟨by rw [← rs.length]; exact hl ds h hn, ds, h, as, hi.z, reps_z rs, post_z (fun _ _ _ q => q) hi.xd p⟩
theorem run_new (K : Cok X M C sc n Wx cf) (hh : C.hot = false) {a Ca : Addr} {f c : Nat} (B : FnB X.prog X.w X.K X.mg X.base M.z n cf a f) (mk : Mk X.K Ca a) (hc : M.ca c = some Ca)
    {pins : List (Addr × Obj)} {s : Shared} {σ : L2.St} {H : Hp} {Q : VK} {vs : List V} {us : List Value} {ds : List D} {h : Hs} {as : List Addr} (I : Inv X pins σ H s) (rv : Vals vs us) (hi : HI (M.g X.K) h as H) (rs : Reps (M.g X.K) as H ds vs)
    (p : post (M.g X.K) Wx (Rep (M.g X.K)) as H σ ((cf f (.ob h.length :: ds) (h ++ [.ins c []])).bind fun r h' => match r with | .non => .ok (.ob h.length) h' | _ => .no) Q) :
    wpAny (model X.prog X.w) X.A (call (.ref Ca) us) (EP X pins σ Q) X.xe s := by
  obtain ⟨fd, ps, np, hb, hp, F, hl⟩ := B
  have hn : cf f (.ob h.length :: ds) (h ++ [.ins c []]) ≠ .no := fun e => by rw [e] at p; exact p
  -- the new object
  have go : ∀ x dx, H x = none → H dx = none → dx ≠ x → spI M.z X.K cf np f (.ref x :: (vs ++ [])) (upd (upd H dx (.own x)) x (.ins Ca dx [])) (fun v H2 => v = .non ∧ Q (.ref x) H2) (fun cl d H' => Wx cl d σ H') := by
    intro x dx hx hdx ne
    have hx1 : upd H dx (.own x) x = none := by rw [upd_ne (Ne.symm ne)]; exact hx
    have i1 := (hi.other (o := .own x) hdx).new (mo := .ins c []) (o := .ins Ca dx []) hx1 ⟨Ca, dx, [], hc, upd_same, .nil⟩
    have ex : Ext as H (as ++ [x]) (upd (upd H dx (.own x)) x (.ins Ca dx [])) := (ext_tup hdx).trans (ext_new hx1)
    rw [List.append_nil]
    refine ⟨by rw [← hl _ _ hn]; simp [rs.length], .ob h.length :: ds, h ++ [.ins c []], as ++ [x], i1.z, ?_, ?_⟩
    · refine reps_z ?_
      simp only [Reps, Rep]
      exact ⟨_, _, rfl, ⟨x, rfl, by rw [← hi.len]; simp⟩, rs.mono ex⟩
    · refine post_z (M := M) (Wx := fun cl d _ H' => Wx cl d σ H') (σ := []) (fun _ _ _ q => q) i1.xd ?_
      have p2 := p.mono ex
      cases hh : cf f (.ob h.length :: ds) (h ++ [.ins c []]) with
      | no => exact absurd hh hn
      | exc c' fs h' => rw [hh] at p2; exact p2
      | ok d h' =>
        rw [hh] at p2
        simp only [R.bind_ok] at p2
        split at p2
        · rintro v as' H' x' i' r'
          simp only [Rep] at r'
          refine ⟨r', p2 _ as' H' x' i' ?_⟩
          simp only [Rep]
          exact ⟨x, rfl, x'.pre _ _ (by rw [← hi.len]; simp)⟩
        · exact p2.elim
  have hq := go (s.heap.objs.size + 1) s.heap.objs.size (I.hok.fresh (Nat.le_succ _)) (I.hok.fresh (Nat.le_refl _)) (Nat.ne_of_lt (Nat.lt_succ_self _))
  have I2 := Inv.made (C := Ca) I
  rw [List.append_nil] at hq
  have rr : Vals (V.ref (s.heap.objs.size + 1) :: vs) (Value.ref (s.heap.objs.size + 1) :: us) := .cons rfl rv
  have hll : (Value.ref (s.heap.objs.size + 1) :: us ++ []).length = ps.length := by
    rw [List.append_nil, ← rr.length]; exact F.ln _ _ _ _ hq
  have b := hb _ (Value.ref (s.heap.objs.size + 1) :: us) I2.kIn hll
  rw [List.append_nil] at b
  refine wpAny_call (make_map (f := a) I.kIn mk.makes mk.init (beq_iff_eq.mp mk.fn) (codeAny_mono (F.go _ X.stack _ _ ⟨Value.ref (s.heap.objs.size + 1) :: us, []⟩ (Value.ref (s.heap.objs.size + 1) :: us) _ _ _ (by rw [make_guards]; exact K.gd) ((K.cool hh).room.make Ca us [])
    (I2.env0.make Ca us []) b rr hq) fun r s' hq' => ?_))
  cases r with
  | error e => exact passAt K.tk σ pins _ _ e s' I2 hq'
  | ok fl =>
    cases fl with
    | ret u =>
      obtain ⟨v, H', I3, rv, ev, q3⟩ := I2.after hq'
      subst ev
      exact ⟨rv, ⟨V.ref (s.heap.objs.size + 1), H', I3, rfl, q3⟩⟩
    | next => exact False.elim hq'
    | brk => exact False.elim hq'
    | cont => exact False.elim hq'
/-- f(..) -/
theorem se_cal (K : Cok X M C sc n Wx cf) (hh : C.hot = false) {f : Nat} {es : List E} {xs : List Expr} {x : Str} {p pos : Pos} (h1 : isC C.fnm f x = true) (h2 : glB sc x = true) (h3 : okN x = true) (hx : chkEs C es sc xs = true) (ha : PA X xs (tEs (M.g X.K) Wx (evalEs M.W cf M.cx es))) :
    PE X (.Call (.Name x p) xs [] pos) (tE (M.g X.K) Wx (evalE M.W cf M.cx (.cal f es))) := by
  obtain ⟨a, m1, m2⟩ := (K.cool hh).fns.1 f x (isC_ok h1)
  obtain ⟨kp, B⟩ := (K.cool hh).fns.2 f a m2
  refine ⟨fun pins s σ H Q I h => ?_⟩
  obtain ⟨σI, h, as, sl, hi, p⟩ := h
  simp only [evalE] at p
  refine wpAny_Call_Name_kw (ld_glob I (K.gl x h2) m1 ?_ (okN_ok h3).1)
  cases xs with
  | nil =>
    cases es with
    | cons e es => simp [chkEs] at hx
    | nil => exact PySem.W.callWith_K0 I.kIn kp (run_cal (us := []) K hh B I .nil hi (by simp only [Reps]) p)
  | cons y ys =>
    cases es with
    | nil => simp [chkEs] at hx
    | cons e es =>
      simp only [chkEs, Bool.and_eq_true, Bool.not_eq_true'] at hx
      refine PySem.W.callWith_K (h₀ := X.base) I.ok.mod.kin kp (thn (ha.run pos pins s σ H _ I (thens sl hi p)) fun us s1 ⟨vs, H1, I1, r, q⟩ => ⟨I1.kIn, ?_⟩) (star_one hx.1.2 _ _) (chkEs_star hx.2)
      obtain ⟨ds, h1, as1, _, x1, _, i1, rs, p1⟩ := q
      exact run_cal K hh B I1 r i1 rs p1
/-- C(..) -/
theorem se_new (K : Cok X M C sc n Wx cf) (hh : C.hot = false) {c : Nat} {es : List E} {xs : List Expr} {x : Str} {p pos : Pos} (h0 : c ∈ C.nw) (h1 : isC C.cnm c x = true) (h2 : glB sc x = true) (h3 : okN x = true) (hx : chkEs C es sc xs = true) (ha : PA X xs (tEs (M.g X.K) Wx (evalEs M.W cf M.cx es))) :
    PE X (.Call (.Name x p) xs [] pos) (tE (M.g X.K) Wx (evalE M.W cf M.cx (.new c es))) := by
  obtain ⟨ci, f, Ca, a, e1, e2, e3, m1, mk, B⟩ := (K.cool hh).mks c x h0 (isC_ok h1)
  replace e1 : M.W.cls[c]? = some ci := e1
  replace e3 : M.ca c = some Ca := e3
  refine ⟨fun pins s σ H Q I h => ?_⟩
  obtain ⟨σI, h, as, sl, hi, p⟩ := h
  simp only [evalE, e1, e2, Option.bind_some] at p
  refine wpAny_Call_Name_kw (ld_glob I (K.gl x h2) m1 ?_ (okN_ok h3).1)
  cases xs with
  | nil =>
    cases es with
    | cons e es => simp [chkEs] at hx
    | nil => exact PySem.W.callWith_K0 I.kIn mk.kp (run_new (us := []) K hh B mk e3 I .nil hi (by simp only [Reps]) p)
  | cons y ys =>
    cases es with
    | nil => simp [chkEs] at hx
    | cons e es =>
      simp only [chkEs, Bool.and_eq_true, Bool.not_eq_true'] at hx
      refine PySem.W.callWith_K (h₀ := X.base) I.ok.mod.kin mk.kp (thn (ha.run pos pins s σ H _ I (thens sl hi p)) fun us s1 ⟨vs, H1, I1, r, q⟩ => ⟨I1.kIn, ?_⟩) (star_one hx.1.2 _ _) (chkEs_star hx.2)
      obtain ⟨ds, h1, as1, _, x1, _, i1, rs, p1⟩ := q
      exact run_new K hh B mk e3 I1 r i1 rs p1
/-- a local's value called -/
theorem se_cav (K : Cok X M C sc n Wx cf) (hh : C.hot = false) {i : Nat} {es : List E} {xs : List Expr} {x : Str} {p pos : Pos} (h1 : isC C.N i x = true) (h2 : visB sc x = true) (h3 : okN x = true) (hx : chkEs C es sc xs = true) (ha : PA X xs (tEs (M.g X.K) Wx (evalEs M.W cf M.cx es))) :
    PE X (.Call (.Name x p) xs [] pos) (tE (M.g X.K) Wx (evalE M.W cf M.cx (.cav i es))) := by
  obtain ⟨d1, d2, _⟩ := okN_ok h3
  refine ⟨fun pins s σ H Q I h => ?_⟩
  obtain ⟨σI, h, as, sl, hi, p⟩ := h
  simp only [evalE] at p
  split at p
  · rename_i f e
    obtain ⟨v, e1, r⟩ := sl.at_ i _ e
    simp only [Rep] at r
    obtain ⟨a, rfl, m2⟩ := r
    obtain ⟨kp, B⟩ := (K.cool hh).fns.2 f a m2
    refine wpAny_Call_Name_kw (thn ((pe_var (pos := _) (by rw [K.N]; exact isC_ok h1) (K.vis x h2) d1 d2).run pins s σ H (fun v H1 => v = .ref a ∧ H1 = H) I ⟨.ref a, e1, rfl, rfl⟩) fun u s1 ⟨v, H1, I1, r1, q1⟩ => ?_)
    obtain ⟨rfl, rfl⟩ := q1
    cases r1
    cases xs with
    | nil =>
      cases es with
      | cons e es => simp [chkEs] at hx
      | nil => exact PySem.W.callWith_K0 I1.kIn kp (run_cal (us := []) K hh B I1 .nil hi (by simp only [Reps]) p)
    | cons y ys =>
      cases es with
      | nil => simp [chkEs] at hx
      | cons e es =>
        simp only [chkEs, Bool.and_eq_true, Bool.not_eq_true'] at hx
        refine PySem.W.callWith_K (h₀ := X.base) I.ok.mod.kin kp (thn (ha.run pos pins s1 σ _ _ I1 (thens sl hi p)) fun us s2 ⟨vs, H2, I2, r, q⟩ => ⟨I2.kIn, ?_⟩) (star_one hx.1.2 _ _) (chkEs_star hx.2)
        obtain ⟨ds, h1, as1, _, x1, _, i1, rs, p1⟩ := q
        exact run_cal K hh B I2 r i1 rs p1
  · exact p.elim
/-- methods of built-in values -/
def mtT : Mt → String
  | .append => "list" | .extend => "list" | .pop => "list" | .insert => "list" | .reverse => "list" | .get => "dict" | .update => "dict" | _ => "str"
def mtN : Mt → String
  | .append => "append" | .extend => "extend" | .pop => "pop" | .insert => "insert" | .reverse => "reverse" | .get => "get" | .update => "update" | .join => "join" | .startswith => "startswith" | .find => "find" | .isalnum => "isalnum" | .lower => "lower"
theorem mtOf_ok {as : List Addr} {H : Hp} {x : V} {d : D} {m : String} {h : Hs} {k : Mt} (hi : HI (M.g X.K) h as H) (r1 : Rep (M.g X.K) as H d x) (e : mtOf d m h = some k) : m = mtN k ∧ tyV X.K (mtT k) x H := by
  cases d with
  | ob nn =>
    simp only [Rep] at r1
    obtain ⟨a, rfl, ea⟩ := r1
    simp only [mtOf] at e
    split at e
    · rename_i xs e1
      obtain ⟨vs, h1, h2⟩ := hi.ob nn _ a e1 ea
      (repeat' split at e) <;> first
        | (cases e; done)
        | (cases e; exact ⟨‹_›, .inl ⟨rfl, vs, SqL.of h1⟩⟩)
    · rename_i kvs e1
      obtain ⟨kv, h1, h2⟩ := hi.ob nn _ a e1 ea
      simp only [lkd, Bool.false_eq_true, if_false] at h1
      split at e
      · cases e
        exact ⟨‹_›, .inr (.inr (.inl ⟨rfl, .inl ⟨_, h1⟩⟩))⟩
      · cases e
    · cases e
  | str z =>
    simp only [Rep] at r1
    subst r1
    simp only [mtOf] at e
    (repeat' split at e) <;> first
      | (cases e; done)
      | (cases e; exact ⟨‹_›, rfl⟩)
  | _ => simp [mtOf] at e
def rMt (M : Mx) (K : PySem.W.Frag) (Wx : WX) (σ : L2.St) (k : Mt) : V → List V → Hp → VK → Prop := fun x xs H Q => ∃ d ds h as, HI (M.g K) h as H ∧ Rep (M.g K) as H d x ∧ Reps (M.g K) as H ds xs ∧ post (M.g K) Wx (Rep (M.g K)) as H σ (methD k d ds h) Q
theorem mt_append8 (σ' : L2.St) : MtR X "list.append" (rMt M X.K Wx σ' .append) := by
  intro pins s σ H x vs v us Q I rx rv hh
  obtain ⟨d, ds, h, as, hi, r1, rs, p⟩ := hh
  simp only [methD] at p
  split at p
  · rename_i nn y
    simp only [Rep] at r1
    obtain ⟨a, rfl, ea⟩ := r1
    obtain ⟨w, _, rfl, r2, rn⟩ := rs.cons_inv
    obtain rfl := rn.nil_inv
    split at p
    · rename_i xs e1
      split at p
      · rename_i hl
        obtain ⟨ws, h1, hr⟩ := hi.ob nn _ a e1 ea
        refine mt_append pins s σ H _ _ v us Q I rx rv ⟨a, ws, w, rfl, rfl, h1, by rw [← hr.length]; exact hl, ?_⟩
        have ex := ext_set (o := HO.lst (ws ++ [w])) ea h1 (fun _ => by intro z; cases z) (fun _ _ => by intro z; cases z)
        refine p _ as _ ex (hi.set ea h1 (fun _ => by intro z; cases z) (fun _ _ => by intro z; cases z) ⟨_, upd_same, (Reps.append hr (Reps.one r2)).mono ex⟩) ?_
        simp only [Rep]
      · exact p.elim
    · exact p.elim
  · exact p.elim
theorem mt_reverse8 (σ' : L2.St) : MtR X "list.reverse" (rMt M X.K Wx σ' .reverse) := by
  intro pins s σ H x vs v us Q I rx rv hh
  obtain ⟨d, ds, h, as, hi, r1, rs, p⟩ := hh
  simp only [methD] at p
  split at p
  · rename_i nn
    simp only [Rep] at r1
    obtain ⟨a, rfl, ea⟩ := r1
    obtain rfl := rs.nil_inv
    split at p
    · rename_i xs e1
      obtain ⟨ws, h1, hr⟩ := hi.ob nn _ a e1 ea
      refine mt_reverse pins s σ H _ _ v us Q I rx rv ⟨a, ws, rfl, rfl, h1, ?_⟩
      have ex := ext_set (o := HO.lst ws.reverse) ea h1 (fun _ => by intro z; cases z) (fun _ _ => by intro z; cases z)
      refine p _ as _ ex (hi.set ea h1 (fun _ => by intro z; cases z) (fun _ _ => by intro z; cases z) ⟨_, upd_same, (Reps.reverse hr).mono ex⟩) ?_
      simp only [Rep]
    · exact p.elim
  · exact p.elim
theorem mt_extend8 (σ' : L2.St) : MtR X "list.extend" (rMt M X.K Wx σ' .extend) := by
  intro pins s σ H x vs v us Q I rx rv hh
  obtain ⟨d, ds, h, as, hi, r1, rs, p⟩ := hh
  simp only [methD] at p
  split at p
  · rename_i nn mm
    simp only [Rep] at r1
    obtain ⟨a, rfl, ea⟩ := r1
    obtain ⟨w, _, rfl, r2, rn⟩ := rs.cons_inv
    obtain rfl := rn.nil_inv
    simp only [Rep] at r2
    obtain ⟨b, rfl, eb⟩ := r2
    split at p
    · rename_i xs ys e1 e2
      split at p
      · rename_i hl
        obtain ⟨ws, h1, hr⟩ := hi.ob nn _ a e1 ea
        obtain ⟨zs, h2, hz⟩ := hi.ob mm _ b e2 eb
        refine mt_extend pins s σ H _ _ v us Q I rx rv ⟨a, b, ws, zs, rfl, rfl, h1, h2, by rw [← hr.length, ← hz.length]; exact hl, ?_⟩
        have ex := ext_set (o := HO.lst (ws ++ zs)) ea h1 (fun _ => by intro z; cases z) (fun _ _ => by intro z; cases z)
        refine p _ as _ ex (hi.set ea h1 (fun _ => by intro z; cases z) (fun _ _ => by intro z; cases z) ⟨_, upd_same, (Reps.append hr hz).mono ex⟩) ?_
        simp only [Rep]
      · exact p.elim
    · exact p.elim
  · exact p.elim
theorem mt_pop8 (σ' : L2.St) : MtR X "list.pop" (rMt M X.K Wx σ' .pop) := by
  intro pins s σ H x vs v us Q I rx rv hh
  obtain ⟨d, ds, h, as, hi, r1, rs, p⟩ := hh
  simp only [methD] at p
  split at p
  · rename_i nn
    simp only [Rep] at r1
    obtain ⟨a, rfl, ea⟩ := r1
    obtain rfl := rs.nil_inv
    split at p
    · rename_i xs e1
      split at p
      · rename_i y ey
        obtain ⟨ws, h1, hr⟩ := hi.ob nn _ a e1 ea
        obtain ⟨w, ew, rw'⟩ := hr.get ey
        refine mt_pop pins s σ H _ _ v us Q I rx rv ⟨a, ws, w, rfl, rfl, h1, by rw [← hr.length]; exact ew, ?_⟩
        have ex := ext_set (o := HO.lst ws.dropLast) ea h1 (fun _ => by intro z; cases z) (fun _ _ => by intro z; cases z)
        refine p _ as _ ex (hi.set ea h1 (fun _ => by intro z; cases z) (fun _ _ => by intro z; cases z) ⟨_, upd_same, ?_⟩) (rw'.mono ex)
        have := (Reps.take (xs.length - 1) hr).mono ex
        rw [← show xs.dropLast = xs.take (xs.length - 1) from List.dropLast_eq_take, ← show ws.dropLast = ws.take (xs.length - 1) from by rw [List.dropLast_eq_take, hr.length]] at this
        exact this
      · exact p.elim
    · exact p.elim
  · exact p.elim
theorem mt_insert8 (σ' : L2.St) : MtR X "list.insert" (rMt M X.K Wx σ' .insert) := by
  intro pins s σ H x vs v us Q I rx rv hh
  obtain ⟨d, ds, h, as, hi, r1, rs, p⟩ := hh
  simp only [methD] at p
  split at p
  · rename_i nn i y
    simp only [Rep] at r1
    obtain ⟨a, rfl, ea⟩ := r1
    obtain ⟨w, _, rfl, r2, rn⟩ := rs.cons_inv
    obtain ⟨w2, _, rfl, r3, rn⟩ := rn.cons_inv
    obtain rfl := rn.nil_inv
    simp only [Rep] at r2
    subst r2
    split at p
    · rename_i xs e1
      split at p
      · rename_i hl
        obtain ⟨ws, h1, hr⟩ := hi.ob nn _ a e1 ea
        refine mt_insert pins s σ H _ _ v us Q I rx rv ⟨a, ws, i, w2, rfl, rfl, h1, by rw [← hr.length]; exact hl.1, hl.2.1, by have := hl.2.2; omega, ?_⟩
        have ex := ext_set (o := HO.lst (ws.take i.toNat ++ [w2] ++ ws.drop i.toNat)) ea h1 (fun _ => by intro z; cases z) (fun _ _ => by intro z; cases z)
        refine p _ as _ ex (hi.set ea h1 (fun _ => by intro z; cases z) (fun _ _ => by intro z; cases z) ⟨_, upd_same, (Reps.append (Reps.append (Reps.take _ hr) (Reps.one r3)) (Reps.drop _ hr)).mono ex⟩) ?_
        simp only [Rep]
      · exact p.elim
    · exact p.elim
  · exact p.elim
theorem RepKV.mrg {G : Gx} {as : List Addr} {H : Hp} : ∀ {ls ks : List (D × D)} {lv kv : List (Key × V)}, RepKV keyK G as H ls lv → RepKV keyK G as H ks kv → RepKV keyK G as H (kvMrg ks ls) (mergeK kv lv)
  | _, _, _, _, .nil, k => k
  | _ :: ls, ks, _ :: lv, kv, .cons h t, k => by
    show RepKV keyK G as H (kvMrg (kvPut ks _ _) ls) (mergeK (putK kv _ _) lv)
    exact RepKV.mrg t (RepKV.put (fun a b => eqv_key a b) h.1 h.2 k)
theorem kvPut_le (ks : List (D × D)) (k v : D) : (kvPut ks k v).length ≤ ks.length + 1 := by
  unfold kvPut; split <;> simp
/-- d.update(e) -/
theorem d_upd {a b : Addr} {ks ls : List (Key × V)} {pins : List (Addr × Obj)} {σ : L2.St} {H : Hp} {s : Shared} {Q : Value → Shared → Prop} {E : Value → Shared → Prop} {A : Around} (I : Inv X pins σ H s) (e1 : H a = some (.dK ks)) (e2 : Rd H b (.dK ls)) (ne : a ≠ b)
    (sz : ks.length + ls.length ≤ sizeLine) (h : ∀ s', Inv X pins σ (upd H a (.dK (mergeK ks ls))) s' → Q .none s') : wpAny (model X.prog X.w) A (call (.builtin "dict.update") [.ref a, .ref b]) Q E s := by
  obtain ⟨z, hd, vs, rel, dd⟩ := dk_of I.hok e1
  obtain ⟨z2, hd2, vs2, rel2, dd2⟩ := dk_rd I.hok e2
  refine call_meetsIn PySem.F.slot_dict_update dd.typeIs PySem.F.entry_dict_update (PySem.F.args_dict_update_2 _ _) (meets_dict_update (mixKind X.prog X.w) a b ne hd2)
    ⟨vs, vs2, dd, dd2, by rw [← rel.length, ← rel2.length]; exact sz, fun g d1 _ hs => h _ ?_⟩
  obtain ⟨q, _, _, hq, _⟩ := id d1
  exact d_write (t' := s.toks) I (by rw [e1]; exact True.intro) hs ⟨q, hq⟩ (dk_new (Nat.le_trans (length_mergeK ls ks) sz) hd (rel2.merge rel) d1)
theorem mt_update8 (σ' : L2.St) : MtR X "dict.update" (rMt M X.K Wx σ' .update) := by
  intro pins s σ H x vs v us Q I rx rv hh
  obtain ⟨d, ds, h, as, hi, r1, rs, p⟩ := hh
  simp only [methD] at p
  split at p
  · rename_i nn mm
    simp only [Rep] at r1
    obtain ⟨a, rfl, ea⟩ := r1
    obtain ⟨w, _, rfl, r2, rn⟩ := rs.cons_inv
    obtain rfl := rn.nil_inv
    simp only [Rep] at r2
    obtain ⟨b, rfl, eb⟩ := r2
    split at p
    · rename_i ks lk ls e1 e2
      split at p
      · rename_i hl
        obtain ⟨kv, h1, hr⟩ := hi.ob nn _ a e1 ea
        obtain ⟨lv, h2, hz⟩ := hi.ob mm _ b e2 eb
        simp only [lkd, Bool.false_eq_true, if_false] at h1
        cases rx
        obtain ⟨u, eu, rx⟩ := vals1 rv
        subst eu
        cases rx
        have hne : a ≠ b := fun q => hl.1 ((List.getElem?_inj (List.getElem?_eq_some_iff.mp ea).1 hi.nd).mp (by rw [ea, eb, q]))
        refine d_upd I h1 h2.rd hne (by rw [← hr.length, ← hz.length]; exact hl.2) fun s' I' => ?_
        have ex := ext_set (o := HO.dK (mergeK kv lv)) ea h1 (fun _ => by intro z; cases z) (fun _ _ => by intro z; cases z)
        refine ⟨.non, _, I', rfl, p _ as _ ex (hi.set ea h1 (fun _ => by intro z; cases z) (fun _ _ => by intro z; cases z) ⟨_, ?_, (RepKV.mrg hz hr).mono ex⟩) (by simp only [Rep])⟩
        simp only [lkd, Bool.false_eq_true, if_false]; exact upd_same
      · exact p.elim
    · exact p.elim
  · exact p.elim
theorem mt_isalnum8 (σ' : L2.St) : MtR X "str.isalnum" (rMt M X.K Wx σ' .isalnum) := by
  intro pins s σ H x xs v us Q I rx rv hh
  obtain ⟨d, ds, h, as, hi, r1, rs, p⟩ := hh
  simp only [methD] at p
  split at p
  · simp only [Rep] at r1
    subst r1
    obtain rfl := rs.nil_inv
    exact mt_isalnum pins s σ H _ _ v us Q I rx rv ⟨_, rfl, rfl, trivial, p _ as H Ext.refl hi (by simp only [Rep])⟩
  · exact p.elim
theorem mt_lower8 (σ' : L2.St) : MtR X "str.lower" (rMt M X.K Wx σ' .lower) := by
  intro pins s σ H x xs v us Q I rx rv hh
  obtain ⟨d, ds, h, as, hi, r1, rs, p⟩ := hh
  simp only [methD] at p
  split at p
  · split at p
    · rename_i hc
      simp only [Rep] at r1
      subst r1
      obtain rfl := rs.nil_inv
      refine mt_lower pins s σ H _ _ v us Q I rx rv ⟨_, rfl, rfl, by have := hc.1; simp only [st, Str.length, List.size_toArray, List.length_map]; omega, p _ as H Ext.refl hi (by simp only [Rep]; rw [hc.2])⟩
    · exact p.elim
  · exact p.elim
theorem joinL_st (sep : List Char) : ∀ ss : List (List Char), Str.join (st sep) (ss.map st) = st (joinL sep ss)
  | [] => by simp [Str.join, joinL, st, Str.empty]
  | [x] => rfl
  | x :: y :: r => by
    have ih := joinL_st sep (y :: r)
    have ap : ∀ a b : List Char, (st a ++ st b : Str) = st (a ++ b) := fun a b => st_app a b
    show st x ++ st sep ++ Str.join (st sep) (st y :: r.map st) = _
    rw [show (st y :: r.map st) = (y :: r).map st from rfl, ih, ap, ap]
    rfl
theorem reps_strs {G : Gx} {as : List Addr} {H : Hp} : ∀ {ys : List D} {ss : List (List Char)} {ws : List V}, strsOf ys = some ss → Reps G as H ys ws → ws = (ss.map st).map V.str
  | [], ss, ws, e, r => by
    simp only [strsOf, Option.some.injEq] at e
    subst e
    simp only [Reps] at r
    subst r; rfl
  | y :: ys, ss, ws, e, r => by
    obtain ⟨v, vs, rfl, r1, r2⟩ := r.cons_inv
    cases y with
    | str s =>
      simp only [strsOf] at e
      cases e2 : strsOf ys with
      | none => rw [e2] at e; cases e
      | some ss' =>
        rw [e2] at e
        simp only [Option.map_some, Option.some.injEq] at e
        subst e
        simp only [Rep] at r1
        subst r1
        rw [reps_strs e2 r2]; rfl
    | _ => simp [strsOf] at e
theorem mt_join8 (σ' : L2.St) : MtR X "str.join" (rMt M X.K Wx σ' .join) := by
  intro pins s σ H x xs v us Q I rx rv hh
  obtain ⟨d, ds, h, as, hi, r1, rs, p⟩ := hh
  simp only [methD] at p
  split at p
  · rename_i sep n
    simp only [Rep] at r1
    subst r1
    obtain ⟨w, _, rfl, r2, rn⟩ := rs.cons_inv
    obtain rfl := rn.nil_inv
    simp only [Rep] at r2
    obtain ⟨a, rfl, ea⟩ := r2
    split at p
    · rename_i ys e1
      split at p
      · rename_i ss e2
        split at p
        · rename_i hc
          obtain ⟨ws, h1, hr⟩ := hi.ob n _ a e1 ea
          have ew := reps_strs e2 hr
          subst ew
          refine mt_join pins s σ H _ _ v us Q I rx rv ⟨_, a, ss.map st, rfl, rfl, .inl (SqL.of h1), ?_, ?_⟩
          · have q1 : ((ss.map st).map (·.length)).sum = (ss.map List.length).sum := by
              rw [List.map_map]
              congr 1
              exact List.map_congr_left fun z _ => by simp [Function.comp, st, Str.length]
            have q2 : (st sep).length = sep.length := by simp [st, Str.length]
            rw [q1, q2, List.length_map]; omega
          · refine p _ as H Ext.refl hi ?_
            simp only [Rep]
            have ej : Txt.join (st sep) (ss.map st) = Str.join (st sep) (ss.map st) := StrLaws.glued_eq_join _ _
            rw [ej, joinL_st]
        · exact p.elim
      · exact p.elim
    · exact p.elim
  · exact p.elim
theorem mt_startswith8 (σ' : L2.St) : MtR X "str.startswith" (rMt M X.K Wx σ' .startswith) := by
  intro pins s σ H x xs v us Q I rx rv hh
  obtain ⟨d, ds, h, as, hi, r1, rs, p⟩ := hh
  simp only [methD] at p
  split at p
  · simp only [Rep] at r1
    subst r1
    obtain ⟨w, _, rfl, r2, rn⟩ := rs.cons_inv
    obtain ⟨w2, _, rfl, r3, rn⟩ := rn.cons_inv
    obtain rfl := rn.nil_inv
    simp only [Rep] at r2 r3
    subst r2 r3
    exact mt_startswith3 pins s σ H _ _ v us Q I rx rv ⟨_, _, _, rfl, rfl, p _ as H Ext.refl hi (by simp only [Rep])⟩
  · exact p.elim
theorem mt_find8 (σ' : L2.St) : MtR X "str.find" (rMt M X.K Wx σ' .find) := by
  intro pins s σ H x xs v us Q I rx rv hh
  obtain ⟨d, ds, h, as, hi, r1, rs, p⟩ := hh
  simp only [methD] at p
  split at p
  · simp only [Rep] at r1
    subst r1
    obtain ⟨w, _, rfl, r2, rn⟩ := rs.cons_inv
    obtain ⟨w2, _, rfl, r3, rn⟩ := rn.cons_inv
    obtain rfl := rn.nil_inv
    simp only [Rep] at r2 r3
    subst r2 r3
    exact mt_find3 pins s σ H _ _ v us Q I rx rv ⟨_, _, _, rfl, rfl, p _ as H Ext.refl hi (by simp only [Rep])⟩
  · exact p.elim
/-- one method's rule, in place -/
structure MtOk (X : Cx) (M : Mx) (Wx : WX) (k : Mt) (id : String) : Prop where
  pa : PlainAttrs (mtT k)
  slot : Slot (mtT k) (Str.ofString (mtN k)) id
  ty : typeOf (.builtin id) = pure (.type "method_descriptor")
  run : ∀ σ, MtR X id (rMt M X.K Wx σ k)
theorem mt_known {d : D} {m : String} {h : Hs} {k : Mt} (e : mtOf d m h = some k) : ∃ id, MtOk X M Wx k id := by
  cases d with
  | ob nn =>
    simp only [mtOf] at e
    split at e
    · (repeat' split at e) <;> first
        | (cases e; done)
        | (cases e; exact ⟨_, PySem.F.plainAttrs_list, PySem.F.slot_list_append, PySem.F.type_list_append, mt_append8⟩)
        | (cases e; exact ⟨_, PySem.F.plainAttrs_list, PySem.F.slot_list_reverse, PySem.F.type_list_reverse, mt_reverse8⟩)
        | (cases e; exact ⟨_, PySem.F.plainAttrs_list, PySem.F.slot_list_extend, PySem.F.type_list_extend, mt_extend8⟩)
        | (cases e; exact ⟨_, PySem.F.plainAttrs_list, PySem.F.slot_list_pop, PySem.F.type_list_pop, mt_pop8⟩)
        | (cases e; exact ⟨_, PySem.F.plainAttrs_list, PySem.F.slot_list_insert, PySem.F.type_list_insert, mt_insert8⟩)
    · split at e
      · cases e
        exact ⟨_, PySem.F.plainAttrs_dict, PySem.F.slot_dict_update, PySem.F.type_dict_update, mt_update8⟩
      · cases e
    · cases e
  | str z =>
    simp only [mtOf] at e
    (repeat' split at e) <;> first
      | (cases e; done)
      | (cases e; exact ⟨_, PySem.F.plainAttrs_str, PySem.F.slot_str_isalnum, PySem.F.type_str_isalnum, mt_isalnum8⟩)
      | (cases e; exact ⟨_, PySem.F.plainAttrs_str, PySem.F.slot_str_startswith, PySem.F.type_str_startswith, mt_startswith8⟩)
      | (cases e; exact ⟨_, PySem.F.plainAttrs_str, PySem.F.slot_str_find, PySem.F.type_str_find, mt_find8⟩)
      | (cases e; exact ⟨_, PySem.F.plainAttrs_str, PySem.F.slot_str_lower, PySem.F.type_str_lower, mt_lower8⟩)
      | (cases e; exact ⟨_, PySem.F.plainAttrs_str, PySem.F.slot_str_join, PySem.F.type_str_join, mt_join8⟩)
  | _ => simp [mtOf] at e
theorem se_met (K : Cok X M C sc n Wx cf) (hh : C.hot = false) {o : E} {m : String} {es : List E} {y : Expr} {ap cp : Pos} {xs : List Expr} (ho : SE M X Wx cf o y) (hb : notBare y = true) (hl : (ap.endLine == cp.line) = true) (hx : chkEs C es sc xs = true) (hn : xs.length < 20) (ha : PA X xs (tEs (M.g X.K) Wx (evalEs M.W cf M.cx es))) :
    PE X (.Call (.Attribute y (Str.ofString m) ap) xs [] cp) (tE (M.g X.K) Wx (evalE M.W cf M.cx (.met o m es))) := by
  refine ⟨fun pins s σ H Q I h => ?_⟩
  obtain ⟨σI, h, as, sl, hi, p⟩ := h
  have hform : methodCallForm (xs.length + ([] : List Keyword).length) (backTo cp (starEach xs X.env)) (backToKw cp (keywordEach [] X.env)) = true := by
    unfold methodCallForm
    rw [chkEs_form hx]
    show (true && true && decide (xs.length + 0 + 0 < 30)) = true
    simp; omega
  by_cases hins : ∃ d h1 c fs, evalE M.W cf M.cx o σI h = .ok d h1 ∧ isIns d h1 = some (c, fs)
  · obtain ⟨d, h1, c, fs, e1, e2⟩ := hins
    simp only [evalE] at p
    refine PySem.W.methodCall_KW (pl := (do return (← importBound y X.env).getD true)) (thn (ho.1.run pins s σ H _ I (then1 sl hi p)) fun u s1 ⟨x, H1, I1, rx, q⟩ => ?_) (mcall (bare_ok hb) hform hl)
    obtain ⟨d', h1', as1, e1', x1, sl1, i1, r1, p1⟩ := q
    rw [e1] at e1'; cases e1'
    simp only [e2] at p1
    split at p1
    · rename_i f e3
      split at p1
      · rename_i hno
        cases d with
        | ob mm =>
          have r1' := r1
          simp only [Rep] at r1
          obtain ⟨a, rfl, ea⟩ := r1
          obtain rfl : u = Value.ref a := rx
          simp only [isIns] at e2
          split at e2
          · rename_i c' fs' e4
            cases e2
            obtain ⟨Ca, dx, vs, ec, eo, rf⟩ := i1.ob mm _ a e4 ea
            cases e5 : M.W.cls[c]? with
            | none => rw [e5] at e3; cases e3
            | some ci =>
              rw [e5] at e3
              simp only [Option.bind_some] at e3
              obtain ⟨c1, _, c3⟩ := (K.cool hh).cls c ci e5 Ca ec
              obtain ⟨ma, hm, B⟩ := c3 m f e3
              have hl2 : vs.lookup (Str.ofString m) = none := by
                rcases rf.lookup m with ⟨_, e⟩ | ⟨dd, v, e, _⟩
                · exact e
                · rw [e] at hno; cases hno
              refine getmeth_ok I1 eo c1 hm hl2 ?_
              cases xs with
              | nil =>
                cases es with
                | cons e es => simp [chkEs] at hx
                | nil =>
                  refine PySem.W.callWith_K0 (first := [.ref a]) I1.kIn hm.kp (run_cal (us := [.ref a]) (vs := [.ref a]) K hh B I1 (.cons rfl .nil) i1 (Reps.one r1') ?_)
                  exact p1
              | cons y ys =>
                cases es with
                | nil => simp [chkEs] at hx
                | cons e es =>
                  simp only [chkEs, Bool.and_eq_true, Bool.not_eq_true'] at hx
                  refine PySem.W.callWith_K (first := [.ref a]) (h₀ := X.base) I.ok.mod.kin hm.kp (thn (ha.run cp pins s1 σ H1 _ I1 (thens sl1 i1 p1)) fun us s2 ⟨vs2, H2, I2, r, q2⟩ => ⟨I2.kIn, ?_⟩) (star_one hx.1.2 _ _) (chkEs_star hx.2)
                  obtain ⟨ds, h2, as2, _, x2, _, i2, rs, p2⟩ := q2
                  refine run_cal (us := .ref a :: us) (vs := .ref a :: vs2) K hh B I2 (.cons rfl r) i2 ?_ p2
                  simp only [Reps]
                  exact ⟨_, _, rfl, r1'.mono x2, rs⟩
          · cases e2
        | _ => simp [isIns] at e2
      · exact p1.elim
    · exact p1.elim
  · simp only [evalE] at p
    by_cases hbm : ∃ d h1 k, evalE M.W cf M.cx o σI h = .ok d h1 ∧ isIns d h1 = none ∧ mtOf d m h1 = some k
    · obtain ⟨d, h1, k, e1, e2, e3⟩ := hbm
      obtain ⟨id, mk⟩ := mt_known (X := X) (M := M) (Wx := Wx) e3
      have hmn : m = mtN k := by
        cases d with
        | ob nn =>
          simp only [mtOf] at e3
          split at e3
          · (repeat' split at e3) <;> first
              | (cases e3; done)
              | (cases e3; assumption)
          · split at e3
            · cases e3; assumption
            · cases e3
          · cases e3
        | str z =>
          simp only [mtOf] at e3
          (repeat' split at e3) <;> first
            | (cases e3; done)
            | (cases e3; assumption)
        | _ => simp [mtOf] at e3
      subst hmn
      cases xs with
      | nil =>
        cases es with
        | cons e es => simp [chkEs] at hx
        | nil =>
          refine (pe_bm0 mk.pa mk.slot mk.ty (mk.run σ) ho.1 (bare_ok hb) hl).run pins s σ H Q I ?_
          obtain ⟨q1, q2, q3, sl', hi', p'⟩ := then1 sl hi p
          refine ⟨q1, q2, q3, sl', hi', p'.imp ?_⟩
          rintro x H1 ⟨d', h1', as1, e1', x1, sl1, i1, r1, p1⟩
          rw [e1] at e1'; cases e1'
          simp only [e2, e3] at p1
          exact ⟨(mtOf_ok i1 r1 e3).2, d, [], h1, as1, i1, r1, by simp only [Reps], p1⟩
      | cons y ys =>
        cases es with
        | nil => simp [chkEs] at hx
        | cons e es =>
          have hx' := hx
          simp only [chkEs, Bool.and_eq_true, Bool.not_eq_true'] at hx
          have hf2 : ((backTo cp (starEach (y :: ys) X.env)).all (fun x => !x.1) && (backToKw cp (keywordEach [] X.env)).all (fun x => x.1.isSome)
              && decide ((y :: ys).length + ([] : List Keyword).length + (if ([] : List Keyword).isEmpty then 0 else 1) < 30)) = true := by
            rw [chkEs_form hx']
            show (true && true && decide ((y :: ys).length + 0 + 0 < 30)) = true
            have : decide ((y :: ys).length + 0 + 0 < 30) = true := decide_eq_true (by omega)
            rw [this]; rfl
          refine (pe_bm mk.pa mk.slot mk.ty (mk.run σ) ho.1 ha (bare_ok hb) hf2 hl (star_one hx.1.2 _ _) (chkEs_star hx.2)).run pins s σ H Q I ?_
          obtain ⟨q1, q2, q3, sl', hi', p'⟩ := then1 sl hi p
          refine ⟨q1, q2, q3, sl', hi', p'.imp ?_⟩
          rintro x H1 ⟨d', h1', as1, e1', x1, sl1, i1, r1, p1⟩
          rw [e1] at e1'; cases e1'
          simp only [e2, e3] at p1
          refine ⟨(mtOf_ok i1 r1 e3).2, ?_⟩
          obtain ⟨q1, q2, q3, sl', hi', p'⟩ := thens sl1 i1 p1
          refine ⟨q1, q2, q3, sl', hi', p'.imp ?_⟩
          rintro vs H2 ⟨ds, h2, as2, _, x2, _, i2, rs, p2⟩
          exact ⟨d, ds, h2, as2, i2, r1.mono x2, rs, p2⟩
    · -- it comes to no end but by an error in o
      refine PySem.W.methodCall_KW (pl := (do return (← importBound y X.env).getD true)) (thn (ho.1.run pins s σ H _ I (then1 sl hi p)) fun u s1 ⟨x, H1, I1, rx, q⟩ => ?_) (mcall (bare_ok hb) hform hl)
      obtain ⟨d, h1, as1, e1, x1, sl1, i1, r1, p1⟩ := q
      exfalso
      cases e2 : isIns d h1 with
      | some cf' => exact hins ⟨d, h1, cf'.1, cf'.2, e1, e2⟩
      | none =>
        rw [e2] at p1
        simp only at p1
        cases e3 : mtOf d m h1 with
        | none => rw [e3] at p1; exact p1
        | some k => exact hbm ⟨d, h1, k, e1, e2, e3⟩
end
end Rf
end

section
namespace Rf
open PySem PySem.Spec PyProof.Rows L2

/-! ## calls with a lambda -/
theorem pars_dflt {params : Arguments} {ps : List Str} {env : Env} (h : parsB params = some ps) : defaultsOf params env = ([], []) := by
  unfold parsB at h
  split at h <;> first | rfl | (cases h; done) | skip
theorem pars_bind {params : Arguments} {ps : List Str} (h : parsB params = some ps) (q : Str) (body : Expr) (scope : Scope) (cl : List (Str × Addr)) (pm cv ctv : Value) (us : List Value) (hl : us.length = ps.length) :
    bindArgs (PySem.W.kla_fn "<lambda>" q params body scope cl pm cv ctv) ⟨us, []⟩ = pure (ps.zip us) := by
  unfold parsB at h
  split at h
  · cases h
    match us, hl with
    | [], _ => rfl
  · cases h
    rename_i x _
    match us, hl with
    | [u], _ =>
      simp [bindArgs, seqItems?, List.lookup, List.zip, List.zipWith] <;> rfl
  · rename_i x _ y _
    split at h
    · rename_i hxy
      cases h
      match us, hl with
      | [u, v], _ => simp [bindArgs, seqItems?, List.lookup, List.zip, List.zipWith, hxy.1, hxy.2] <;> rfl
    · cases h
  · cases h

section
variable {X : Cx} {M : Mx} {C : Ck} {sc : Scope} {n : Nat} {Wx : WX} {cf : CF}
/-- what a lambda holds, read -/
theorem caps_eval {W : Wd} {cx : CXI} {σI : Sg} {h : Hs} : ∀ {cs : List E} {capN : List Str}, capsB C sc cs capN = true →
    evalEs W cf cx cs σI h = .no ∨ ∃ ys, evalEs W cf cx cs σI h = .ok ys h ∧ ys.length = capN.length ∧ ∀ (i : Nat) y d, capN[i]? = some y → ys[i]? = some d → ∃ k : Nat, C.N[k]? = some y ∧ σI[k]? = some (some d) ∧ (kindB sc y .cell = true ∨ kindB sc y .free = true)
  | [], [], _ => .inr ⟨[], by simp [evalEs], rfl, by simp⟩
  | .var k :: cs, y :: capN, hc => by
    simp only [capsB, Bool.and_eq_true, Bool.or_eq_true] at hc
    simp only [evalEs, evalE]
    cases e : σI[k]? with
    | none => exact .inl rfl
    | some o =>
      cases o with
      | none => exact .inl rfl
      | some d =>
        simp only [R.bind_ok]
        rcases caps_eval (W := W) (cx := cx) (σI := σI) (h := h) hc.2 with e2 | ⟨ys, e2, hl, hg⟩
        · exact .inl (by rw [e2]; rfl)
        · refine .inr ⟨d :: ys, by rw [e2]; rfl, by simp [hl], fun i y' d' h1 h2 => ?_⟩
          cases i with
          | zero =>
            simp at h1 h2; subst h1 h2
            exact ⟨k, isC_ok hc.1.1, e, hc.1.2⟩
          | succ i => exact hg i y' d' (by simpa using h1) (by simpa using h2)
  | [], _ :: _, hc => by simp [capsB] at hc
  | e :: _, [], hc => by cases e <;> simp [capsB] at hc
theorem lamA_inv {j : Nat} {cs : List E} {l : Expr} (h : lamA C sc j cs l = true) :
    ∃ params body scope pos capN ps, l = .Lambda params body scope pos ∧ C.lms j = some (capN, ps) ∧ parsB params = some ps ∧ C.lamB j scope body = true ∧ capsB C sc cs capN = true ∧ lamScB sc scope capN ps = true := by
  unfold lamA at h
  split at h
  · rename_i params body scope pos
    split at h
    · rename_i capN ps ps' e1 e2
      simp only [Bool.and_eq_true, decide_eq_true_eq] at h
      obtain ⟨⟨⟨rfl, h1⟩, h2⟩, h3⟩ := h
      exact ⟨_, _, _, _, _, _, rfl, e1, e2, h1, h2, h3⟩
    · cases h
  · cases h
structure LamSc (sc scope : Scope) (capN ps : List Str) : Prop where
  kind : scope.kind = .function
  co : scope.isCoroutine = false
  gen : scope.isGenerator = false
  nc : ∀ y ∈ scope.names, y.2 ≠ .cell
  fr : ∀ y ∈ scope.names, y.2 = .free → y.1 ∈ capN ∧ (kindB sc y.1 .cell = true ∨ kindB sc y.1 .free = true)
  lo : ∀ y ∈ scope.names, y.2 = .local → y.1 ∈ ps
  pl : ∀ x ∈ ps, scope.names.lookup x = some .local
  cap : ∀ y ∈ capN, scope.names.lookup y = some .free
  nd : (capN ++ ps).Nodup
theorem lamSc_of {scope : Scope} {capN ps : List Str} (h : lamScB sc scope capN ps = true) : LamSc sc scope capN ps := by
  simp only [lamScB, Bool.and_eq_true, Bool.not_eq_true', List.all_eq_true, decide_eq_true_eq, Bool.or_eq_true, decide_eq_false_iff_not] at h
  obtain ⟨⟨⟨⟨⟨⟨h1, h2⟩, h3⟩, h4⟩, h5⟩, h6⟩, h7⟩ := h
  refine ⟨?_, h2, h3, fun y hy => (h4 y hy).1.1, fun y hy e => ?_, fun y hy e => ?_, fun x hx => kindB_ok (h5 x hx), fun y hy => kindB_ok (h6 y hy), h7⟩
  · unfold isFunK at h1
    split at h1
    · assumption
    · cases h1
  · rcases (h4 y hy).1.2 with q | q
    · exact absurd e q
    · exact q
  · rcases (h4 y hy).2 with q | q
    · exact absurd e q
    · exact q
theorem cf_kind (K : Cok X M C sc n Wx cf) {y : Str} (h : kindB sc y .cell = true ∨ kindB sc y .free = true) : X.env.kindOf y = some .cell ∨ X.env.kindOf y = some .free := by
  rcases h with h | h
  · exact .inl (K.scn y _ (by decide) (kindB_ok h))
  · exact (K.scf y (kindB_ok h)).symm
/-- a lambda's object is made: what the tracked heap becomes -/
theorem lam_mk {pins : List (Addr × Obj)} {s : Shared} {σ : L2.St} {H : Hp} {T : List (Addr × Str)} {c P : Addr} {params : Arguments} {body : Expr} {scope : Scope} {pos : Pos} {EE QQ : Value → Shared → Prop} (I : Inv X pins σ H s) (TB : LamX.TabB X.base X.mg c P)
    (hc : X.env.code = .ref c) (hm : (P, X.env.qual ++ "<lambda>") ∈ T) (hu : ∀ p ∈ T, p.1 = P → p.2 = X.env.qual ++ "<lambda>") (hT : LamX.Tabs T H) (hd : defaultsOf params X.env = ([], [])) (hf : ∀ y ∈ scope.names, y.2 = .free → ∃ c, X.env.cells.lookup y.1 = some c)
    (fin : ∀ (f c' : Addr) (pm ctv : Value) (H1 : Hp) (s' : Shared), Inv X pins σ H1 s' →
      (H1 = H ∨ ∃ ps more, H P = some (.tbl ps) ∧ H c' = none ∧ H1 = upd (upd H P (.tbl (ps ++ more))) c' (LamX.CodeO c' (X.env.qual ++ "<lambda>"))) → LamX.Tabs T H1 →
      s'.heap.get? f = some (PySem.W.kla_obj "<lambda>" (X.env.qual ++ "<lambda>") params body scope (cloFrom X.env.cells scope.names []) pm c' ctv) → H1 f = none → f ∉ frs X.stack →
      H1 c' = some (LamX.CodeO c' (X.env.qual ++ "<lambda>")) → QQ (.ref f) s') :
    wpAny (model X.prog X.w) X.A (eval (.Lambda params body scope pos) X.env) QQ EE s := by
  obtain ⟨ps, hP, triples, named⟩ := hT _ hm
  have heapP : s.heap.get? P = some { cls := .none, data := .fields ps } := I.hok P _ hP
  have noFrame : ∀ x, s.heap.objs.size ≤ x → x ∉ frs X.stack := by
    intro x hx z
    rcases List.mem_cons.mp (I.stkSub _ z) with e | e
    · have l := I.lt
      rw [← e] at l
      exact absurd (Nat.lt_of_lt_of_le l hx) (Nat.lt_irrefl _)
    · exact I.nofs hx e
  refine PySem.W.kla_eval hd ?_
  match hfound : codeAmong pos ps.toList with
  | some cv =>
    obtain ⟨c', rfl, known⟩ := named pos cv hfound
    exact PySem.W.kla_makeFunctionHit (mg := X.mg) (c := c) (P := P) (ps := ps) (closure_ok hf) I.ok.glob (I.mod.glob.keeps I.bk) hc (TB.code.keeps I.bk) heapP triples hfound (TB.bm.keeps I.bk) fun ctv h' tk stays grown =>
      fin h'.objs.size c' ((X.mg "__name__").getD .none) ctv H _ (I.kept fun b o e => Heap.get?_push_of_some _ (stays b o e)) (.inl rfl) hT (Heap.get?_push_size _ rfl) (I.hok.fresh grown) (noFrame _ grown) known
  | none =>
    refine PySem.W.kla_makeFunction (mg := X.mg) (c := c) (P := P) (ps := ps) (closure_ok hf) I.ok.glob (I.mod.glob.keeps I.bk) hc (TB.code.keeps I.bk) heapP triples hfound TB.gP (TB.bm.keeps I.bk) fun c' ctv h' tk stays above below rec tab => ?_
    obtain ⟨c2, oc, vs, t, ec, hoc, hdat, hname⟩ := rec
    cases ec
    have grown : s.heap.objs.size ≤ h'.objs.size := Nat.le_trans above (Nat.le_of_lt below)
    have newC : H c' = none := I.hok.fresh above
    have Pc : P ≠ c' := ne_of_none hP newC
    have I1 := LamX.inv_table (t' := tk) (q := X.env.qual ++ "<lambda>") (more := #[rawInt pos.line, rawInt pos.col, .ref c']) (h' := h'.push (PySem.W.kla_obj "<lambda>" (X.env.qual ++ "<lambda>") params body scope (cloFrom X.env.cells scope.names []) ((X.mg "__name__").getD .none) c' ctv)) I hP
      (fun b o hb e => Heap.get?_push_of_some _ (stays b o hb e)) (Heap.get?_push_of_some _ tab) above ⟨oc, vs, t, Heap.get?_push_of_some _ hoc, hdat, hname⟩
    have old : ∀ b o, b ≠ P → H b = some o → upd (upd H P (.tbl (ps ++ #[rawInt pos.line, rawInt pos.col, .ref c']))) c' (LamX.CodeO c' (X.env.qual ++ "<lambda>")) b = some o := fun b o n e => by
      rw [upd_ne (ne_of_none e newC), upd_ne n]; exact e
    refine fin h'.objs.size c' ((X.mg "__name__").getD .none) ctv _ _ I1 (.inr ⟨ps, _, hP, newC, rfl⟩) (fun p hp => ?_) (Heap.get?_push_size _ rfl) ?_ (noFrame _ grown) upd_same
    · by_cases hb : p.1 = P
      · rw [hu p hp hb, hb]
        refine ⟨_, by rw [upd_ne Pc]; exact upd_same, ?_, fun p' cv hcv => ?_⟩
        · rw [show (ps ++ #[rawInt pos.line, rawInt pos.col, Value.ref c']).toList = ps.toList ++ [rawInt pos.line, rawInt pos.col, Value.ref c'] by simp]
          exact PySem.TriplesOk_snoc _ _ _ _ triples
        · rw [show (ps ++ #[rawInt pos.line, rawInt pos.col, Value.ref c']).toList = ps.toList ++ [rawInt pos.line, rawInt pos.col, Value.ref c'] by simp] at hcv
          rcases LamX.among_app _ triples hcv with z | z
          · obtain ⟨c0, e1, e2⟩ := named p' cv z
            exact ⟨c0, e1, old _ _ (fun w => by rw [w, hP] at e2; exact LamX.codeO_ne _ (Option.some.inj e2).symm) e2⟩
          · exact ⟨c', z, upd_same⟩
      · obtain ⟨ps', a1, a2, a3⟩ := hT p hp
        refine ⟨ps', old _ _ hb a1, a2, fun p' cv hcv => ?_⟩
        obtain ⟨c0, e1, e2⟩ := a3 p' cv hcv
        exact ⟨c0, e1, old _ _ (fun w => by rw [w, hP] at e2; exact LamX.codeO_ne _ (Option.some.inj e2).symm) e2⟩
    · rw [upd_ne (Nat.ne_of_gt below), upd_ne (Nat.ne_of_gt (Nat.lt_of_lt_of_le (Heap.lt_size heapP) grown))]
      exact I.hok.fresh grown
theorem clo_sub {cells : List (Str × Addr)} {names : List (Str × NameKind)} (hf : ∀ y ∈ names, y.2 = .free → ∃ c, cells.lookup y.1 = some c) {y : Str} {c : Addr} (e : (cloFrom cells names []).lookup y = some c) : cells.lookup y = some c := by
  rcases cloFrom_mem (PySem.mem_of_lookup e) with hm | ⟨h1, h2⟩
  · cases hm
  · obtain ⟨c1, hc⟩ := hf _ h1 rfl
    have hc : cells.lookup y = some c1 := hc
    have e2 : c = c1 := by rw [h2, hc] <;> rfl
    rw [e2]; exact hc
theorem clo_has {cells : List (Str × Addr)} {names : List (Str × NameKind)} {y : Str} (h : names.lookup y = some .free) : ∃ c, (cloFrom cells names []).lookup y = some c := by
  have hy : (y, NameKind.free) ∈ names := PySem.mem_of_lookup h
  exact mem_lookup (cloFrom_has (cells := cells) (acc := []) hy)
/-- the lambda at a call's end is made, the def is called -/
theorem lam_call (K : Cok X M C sc n Wx cf) (hh : C.hot = false) (hm : C.mkl = true) {kl : Nat} {cfl : CF} (V : VirOk X.prog X.w X.K X.mg X.base M.z C n cf kl cfl) {a : Addr} {v j : Nat}
    (B : ∀ capN ps, C.lms j = some (capN, ps) → FnVB X.prog X.w X.K X.mg X.base M.z n cf kl cfl a v j capN.length) {cs : List E} {l : Expr} (hA : lamA C sc j cs l = true)
    {pins : List (Addr × Obj)} {s : Shared} {σ : L2.St} {H : Hp} {Q : VK} {vs : List L2.V} {us : List Value} {ds : List D} {h : Hs} {as : List Addr} {σI : Sg} (I : Inv X pins σ H s) (sl : SL (M.g X.K) σI as H σ) (rv : Vals vs us) (hi : HI (M.g X.K) h as H) (rs : Reps (M.g X.K) as H ds vs)
    (p : post (M.g X.K) Wx (Rep (M.g X.K)) as H σ ((evalEs M.W cf M.cx cs σI h).bind fun ys h => cf v (ds ++ ys) h) Q) :
    wpAny (model X.prog X.w) X.A (eval l X.env) (fun u s' => X.K.In s'.heap ∧ wpAny (model X.prog X.w) X.A (call (.ref a) (us ++ [u])) (EP X pins σ Q) X.xe s') X.xe s := by
  obtain ⟨params, body, scope, pos, capN, ps, rfl, elm, epar, hB, hcap, hsc⟩ := lamA_inv hA
  obtain ⟨c, P, hcode, TB, hmT, hu⟩ := K.lmk hh hm
  have S := lamSc_of hsc
  rcases caps_eval (W := M.W) (cf := cf) (cx := M.cx) (σI := σI) (h := h) hcap with e | ⟨ys, e, hyl, hyg⟩
  · rw [e] at p; exact p.elim
  rw [e] at p
  simp only [R.bind_ok] at p
  have hfree : ∀ y ∈ scope.names, y.2 = .free → ∃ c, X.env.cells.lookup y.1 = some c := fun y hy e => I.ok.has _ (cf_kind K (S.fr y hy e).2)
  refine lam_mk (T := M.tb) I TB hcode hmT hu hi.tb (pars_dflt epar) hfree fun f c' pm ctv H1 s' I1 hH1 T1 hf hfn hfr hco => ⟨I1.kIn, ?_⟩
  have eN : ∀ b o, H b = some o → (∀ ps, o ≠ .tbl ps) → H1 b = some o := by
    intro b o q nt
    rcases hH1 with rfl | ⟨ps, more, q1, q2, rfl⟩
    · exact q
    · rw [upd_ne (ne_of_none q q2), upd_ne (fun z => by rw [z, q1] at q; exact nt ps (Option.some.inj q).symm)]; exact q
  have eE : Ext as H as H1 := ⟨fun _ _ q => q, fun a xs q => eN a _ q (fun _ z => nomatch z), fun a o u q => eN a _ q (fun _ z => nomatch z), fun a o q _ nt => eN a o q nt, fun a ps q => by
      rcases hH1 with rfl | ⟨ps', more, q1, q2, rfl⟩
      · exact ⟨#[], by simpa using q⟩
      · by_cases ha : a = P
        · rw [ha, q1] at q
          cases q
          exact ⟨more, by rw [ha, upd_ne (ne_of_none q1 q2)]; exact upd_same⟩
        · exact ⟨#[], by rw [upd_ne (ne_of_none q q2), upd_ne ha]; simpa using q⟩,
    fun a q1 q2 => absurd q1 q2⟩
  have hi1 : HI (M.g X.K) h as H1 := ⟨hi.xd.ext eE, T1, hi.len, hi.nd, fun n mo a e1 e2 => by
    have ob := hi.ob n mo a e1 e2
    obtain ⟨u, eu⟩ := ob.some_
    exact ob.mono eE ((eN a u eu (ob.noT u eu).1).trans eu.symm)⟩
  have nas : c' ∉ as := fun z => (hi1.noT z _ hco).2 _ rfl
  have rs1 := rs.mono eE
  have sub : ∀ {y c}, (cloFrom X.env.cells scope.names []).lookup y = some c → X.env.cells.lookup y = some c := fun e => clo_sub hfree e
  have cel : CelC X.K M.z scope (cloFrom X.env.cells scope.names []) capN ys s' H1 as := by
    refine ⟨fun y c e => ⟨I1.cell y c (sub e), I1.freeC y c (sub e)⟩, fun y z c e1 e2 => I1.ok.inj y z c (sub e1) (sub e2), fun y e => clo_has e, hyl, fun i y d e1 e2 => ?_⟩
    obtain ⟨k, k1, k2, k3⟩ := hyg i y d e1 e2
    obtain ⟨v', k4, k5⟩ := (sl.mono eE).at_ k d k2
    have hfr' := S.cap y (List.mem_of_getElem? e1)
    obtain ⟨c, ec⟩ := clo_has (cells := X.env.cells) hfr'
    obtain ⟨m, _, hl⟩ := I1.loc
    have ck := cf_kind K k3
    obtain ⟨u, r, lk⟩ := hl k y v' (by rw [K.N]; exact k1) k4 (ck.elim (fun q => .inr (.inl q)) fun q => .inr (.inr q))
    rcases lk with ⟨q, _⟩ | ⟨_, c2, ec2, hcell⟩
    · rcases ck with ck | ck <;> rw [ck] at q <;> cases q
    · rw [sub ec] at ec2
      cases ec2
      exact ⟨c, u, v', ec, hcell, r, rep_z k5⟩
  have L := V.make j capN ps elm sc scope body params hB epar hsc (X.env.qual ++ "<lambda>") _ f c' pm ctv (frs X.stack) s' H1 as ys hf hfn hfr cel
  obtain ⟨fd, pp, i, hb, hp, hl, go⟩ := B capN ps elm
  have hn : cf v (ds ++ ys) h ≠ .no := fun e => by rw [e] at p; exact p
  have hlen : ds.length = i := by
    have := hl _ _ hn
    rw [List.length_append, hyl] at this
    omega
  have vl : vs.length = i := by rw [← hlen, rs.length]
  have rvv : Vals (vs ++ [.ref f]) (us ++ [.ref f]) := rv.append (.cons rfl .nil)
  have b := hb s' (us ++ [.ref f]) I1.kIn (by rw [List.append_nil, ← rvv.length, hp]; simp [vl])
  rw [List.append_nil] at b
  refine wpAny_call (codeAny_mono (go X.A X.stack s' H1 _ vs f c' _ ds ys h as Q (WE Wx σ) K.gd ((K.cool hh).room.mono (by omega)) I1.env0 b rvv vl L nas hco hi1.z (reps_z rs1) (post_z (fun _ _ _ q => q) hi1.xd (p.mono eE))) fun r s2 q => ?_)
  have z := cr_end I1 (fun e _ c => passAt K.tk σ pins H1 s' e s2 I1 c) q
  rcases r with e | fl
  · exact z
  · rcases fl with _ | _ | _ | u
    · exact z
    · exact z
    · exact z
    · exact z
/-- f(.., lambda ..: ..) -/
theorem se_cml (K : Cok X M C sc n Wx cf) (hh : C.hot = false) {v j : Nat} {es cs : List E} {x : Str} {xs : List Expr} {l : Expr} {p pos : Pos} (hm : C.mkl = true) (h1 : (v, j, x) ∈ C.vnm) (h2 : glB sc x = true) (h3 : okN x = true)
    (hA : lamA C sc j cs l = true) (hx : chkEs C es sc xs = true) (h1x : xs.length ≤ 1) (he : ∀ e y, es = [e] → xs = [y] → SE M X Wx cf e y) :
    PE X (.Call (.Name x p) (xs ++ [l]) [] pos) (tE (M.g X.K) Wx (evalE M.W cf M.cx (.cml v j es cs))) := by
  obtain ⟨kl, cfl, V⟩ := (K.cool hh).vir
  obtain ⟨a, m1, kp, B⟩ := V.fn v j x h1
  obtain ⟨params, body, scope, lpos, _, _, rfl, _⟩ := lamA_inv hA
  refine ⟨fun pins s σ H Q I h => ?_⟩
  obtain ⟨σI, h, as, sl, hi, p⟩ := h
  simp only [evalE] at p
  refine wpAny_Call_Name_kw (ld_glob I (K.gl x h2) m1 ?_ (okN_ok h3).1)
  match xs, hx, h1x with
  | [], hx, _ =>
    obtain rfl : es = [] := by cases es with | nil => rfl | cons _ _ => simp [chkEs] at hx
    simp only [evalEs, R.bind_ok] at p
    refine PySem.W.callWith_K (h₀ := X.base) I.ok.mod.kin kp ?_ (by rfl) (by rfl)
    show wpAny _ _ (spliced ((false, eval (.Lambda params body scope lpos) X.env) :: backTo pos (starEach [] X.env))) _ _ s
    refine Calls.spliced_cons (thn (lam_call (us := []) (vs := []) (ds := []) K hh hm V B hA I sl .nil hi (by simp only [Reps]) p) fun u s1 q => Calls.spliced_nil ?_)
    exact q
  | [y], hx, _ =>
    match es, hx with
    | [e], hx =>
      simp only [chkEs, Bool.and_eq_true, Bool.not_eq_true'] at hx
      have hy := (he e y rfl rfl).1
      simp only [evalEs, R.bind_assoc, R.bind_ok] at p
      refine PySem.W.callWith_K (h₀ := X.base) I.ok.mod.kin kp ?_ (star_one hx.1.2 _ _) (by rfl)
      show wpAny _ _ (spliced (backTo pos (starEach (y :: [Expr.Lambda params body scope lpos]) X.env))) _ _ s
      rw [star_one hx.1.2]
      show wpAny _ _ (spliced ((false, eval y X.env) :: (false, eval (.Lambda params body scope lpos) X.env) :: backTo pos (starEach [] X.env))) _ _ s
      refine Calls.spliced_cons (thn (hy.run pins s σ H _ I (then1 sl hi p)) fun u0 s0 ⟨v0, H0, I0, r0, q0⟩ => ?_)
      obtain ⟨d0, h0, as0, _, x0, sl0, i0, rr0, p0⟩ := q0
      refine Calls.spliced_cons (thn (lam_call (us := [u0]) (vs := [v0]) (ds := [d0]) K hh hm V B hA I0 sl0 (.cons r0 .nil) i0 (Reps.one rr0) p0) fun u s1 q => Calls.spliced_nil ?_)
      exact q
    | [], hx => simp [chkEs] at hx
    | _ :: _ :: _, hx => simp [chkEs] at hx
/-- o.m(lambda ..: ..) -/
theorem se_mml (K : Cok X M C sc n Wx cf) (hh : C.hot = false) {c v j : Nat} {o : E} {m : String} {cs : List E} {y l : Expr} {ap cp : Pos} (hm : C.mkl = true) (h1 : (v, j, c, m) ∈ C.vmt) (hA : lamA C sc j cs l = true)
    (ho : SE M X Wx cf o y) (hb : notBare y = true) (hl : (ap.endLine == cp.line) = true) :
    PE X (.Call (.Attribute y (Str.ofString m) ap) [l] [] cp) (tE (M.g X.K) Wx (evalE M.W cf M.cx (.mml c o m v j cs))) := by
  obtain ⟨kl, cfl, V⟩ := (K.cool hh).vir
  obtain ⟨params, body, scope, lpos, _, _, rfl, _⟩ := lamA_inv hA
  refine ⟨fun pins s σ H Q I h => ?_⟩
  obtain ⟨σI, h, as, sl, hi, p⟩ := h
  simp only [evalE] at p
  have hform : methodCallForm ([Expr.Lambda params body scope lpos].length + ([] : List Keyword).length) (backTo cp (starEach [Expr.Lambda params body scope lpos] X.env)) (backToKw cp (keywordEach [] X.env)) = true := rfl
  refine PySem.W.methodCall_KW (pl := (do return (← importBound y X.env).getD true)) (thn (ho.1.run pins s σ H _ I (then1 sl hi p)) fun u s1 ⟨x, H1, I1, rx, q⟩ => ?_) (mcall (bare_ok hb) hform hl)
  obtain ⟨d, h1', as1, e1, x1, sl1, i1, r1, p1⟩ := q
  cases hins : isIns d h1' with
  | none => rw [hins] at p1; exact p1.elim
  | some cf' =>
    obtain ⟨c', fs⟩ := cf'
    rw [hins] at p1
    simp only at p1
    split at p1
    · rename_i hc
      obtain ⟨rfl, hno⟩ := hc
      cases d with
      | ob mm =>
        have r1' := r1
        simp only [Rep] at r1
        obtain ⟨a, rfl, ea⟩ := r1
        obtain rfl : u = Value.ref a := rx
        simp only [isIns] at hins
        split at hins
        · rename_i c2 fs' e4
          cases hins
          obtain ⟨Ca, dx, vs, ec, eo, rf⟩ := i1.ob mm _ a e4 ea
          obtain ⟨ci, e5, hmt⟩ := V.mt v j _ m h1
          replace e5 : M.W.cls[_]? = some ci := e5
          obtain ⟨c1, _, _⟩ := (K.cool hh).cls _ ci e5 Ca ec
          obtain ⟨ma, hmm, B⟩ := hmt Ca ec
          have hl2 : vs.lookup (Str.ofString m) = none := by
            rcases rf.lookup m with ⟨_, e⟩ | ⟨dd, v, e, _⟩
            · exact e
            · rw [e] at hno; cases hno
          refine getmeth_ok I1 eo c1 hmm hl2 ?_
          refine PySem.W.callWith_K (first := [.ref a]) (h₀ := X.base) I.ok.mod.kin hmm.kp ?_ (by rfl) (by rfl)
          show wpAny _ _ (spliced ((false, eval (.Lambda params body scope lpos) X.env) :: backTo cp (starEach [] X.env))) _ _ s1
          refine Calls.spliced_cons (thn (lam_call (us := [.ref a]) (vs := [.ref a]) (ds := [.ob mm]) K hh hm V B hA I1 sl1 (.cons rfl .nil) i1 (Reps.one r1') p1) fun u s2 q => Calls.spliced_nil ?_)
          exact q
        · cases hins
      | _ => simp [isIns] at hins
    · exact p1.elim
end
end Rf
end

section
namespace Rf
open PySem PySem.Spec PyProof.Rows L2

/-! ## what is walked -/
def WalkOk (G : Gx) (J : It) (items : List D) (g : Gd) (as0 : List Addr) (H0 : Hp) : Prop :=
  ∀ i h as H, Ext as0 H0 as H → HI G h as H → same g h →
    (items.length ≤ i → J.stop i H) ∧ (∀ d, items[i]? = some d → J.go i H ∧ ∀ x H', J.yld i H x H' → ∃ as', Ext as H as' H' ∧ HI G h as' H' ∧ Rep G as' H' d x)
/-- a dict that this body has locked; H: ahead of it -/
def GdOk (X : Cx) (g : Gd) (as : List Addr) (H : Hp) : Prop := match g with
  | .lock n _ _ => ∃ a, as[n]? = some a ∧ (∀ o u, X.H_0 a ≠ some (.frz o u)) ∧ ∀ o u, H a ≠ some (.frz o u)
  | _ => True
def rW (X : Cx) (M : Mx) : List Addr → Hp → List D × Gd × Hs → It → Prop := fun as H ig J => HI (M.g X.K) ig.2.2 as H ∧ WalkOk (M.g X.K) J ig.1 ig.2.1 as H
/-- the reading of what is walked: the outcome's own heap is forgotten, the items' heap counts -/
def postW (X : Cx) (M : Mx) (Wx : WX) (as : List Addr) (H : Hp) (σ : L2.St) (r : R (List D × Gd × Hs)) (Q : It → Hp → Prop) : Prop :=
  match r with
  | .ok ig _ => ∀ J as' H', Ext as H as' H' → rW X M as' H' ig J → GdOk X ig.2.1 as' H → Q J H'
  | .exc c fs h' => ∀ C dx vs as' H', Ext as H as' H' → HI (M.g X.K) h' as' H' → M.ca c = some C → H' dx = some (.xd vs) → RepF (M.g X.K) as' H' fs vs → Wx (.ref C) (some dx) σ H'
  | .no => False
def tI (X : Cx) (M : Mx) (Wx : WX) (ev : Sg → Hs → R (List D)) (k : Ik) : TI := fun σ H Q => ∃ σI h as, SL (M.g X.K) σI as H σ ∧ HI (M.g X.K) h as H ∧ postW X M Wx as H σ ((ev σI h).bind fun xs h => ofO (itemsI M.W.cons k xs h) h) Q
section
variable {X : Cx} {M : Mx} {C : Ck} {sc : Scope} {n : Nat} {Wx : WX} {cf : CF}
theorem pi_imp {tg e : Expr} {t t' : TI} (h : PI X tg e t) (i : ∀ σ H Q, t' σ H Q → t σ H Q) : PI X tg e t' := ⟨fun pins s σ H Q I q => h.run pins s σ H Q I (i σ H Q q)⟩
theorem RepKV.at {as : List Addr} {H : Hp} : ∀ {kvs : List (D × D)} {kv : List (Key × V)} {i : Nat} {d : D}, RepKV keyK (M.g X.K) as H kvs kv → (kvs.map (·.1))[i]? = some d → ∃ k v, kv[i]? = some (k, v) ∧ Rep (M.g X.K) as H d (kV k)
  | _, _, _, _, .nil, e => by simp at e
  | (a, b) :: kvs, (x, v) :: kv, 0, d, .cons h t, e => by
    simp at e; subst e
    refine ⟨x, v, rfl, ?_⟩
    have e1 := h.1
    simp only at e1
    cases a <;> simp only [keyK, Option.some.injEq, reduceCtorEq] at e1 <;> subst e1 <;> simp only [Rep, kV]
  | (a, b) :: kvs, (x, v) :: kv, i + 1, d, .cons h t, e => by
    simpa using RepKV.at t (by simpa using e)
/-- a locked dict's keys -/
theorem walk_keys {a : Addr} {od : Obj} {kv : List (Key × V)} {kvs : List (D × D)} {as : List Addr} {H : Hp} {m : Nat} {g : Gd} (hl : H a = some (.frz od (.dK kv))) (hk : RepKV keyK (M.g X.K) as H kvs kv) : WalkOk (M.g X.K) (Itk a od kv) (kvs.map (·.1)) g as H := by
  intro i h3 as3 H3 x3 i3 _
  have hl3 := x3.frz _ _ _ hl
  have hk3 := hk.mono x3
  refine ⟨fun hh => ⟨hl3, by rw [List.length_map, hk.length] at hh; exact hh⟩, fun d hd => ?_⟩
  obtain ⟨k, v, e, r⟩ := RepKV.at hk3 hd
  refine ⟨⟨hl3, (List.getElem?_eq_some_iff.mp e).1⟩, ?_⟩
  rintro y H4 ⟨rfl, k', v', e', rfl⟩
  rw [e] at e'; cases e'
  exact ⟨as3, Ext.refl, i3, r⟩
/-- the lock -/
theorem pe_lockd {e : Expr} {t : TE} (h : PE X e t) : PE X e (fun σ H Q => t σ H fun v H1 => ∃ d u, v = .ref d ∧ H1 d = some u ∧ Mut (some u) ∧ ∀ od, (∀ o' u', X.H_0 d ≠ some (.frz o' u')) → Q (.ref d) (upd H1 d (.frz od u))) := by
  refine ⟨fun pins s σ H Q I q => ?_⟩
  refine thn (h.run pins s σ H _ I q) ?_
  rintro v s1 ⟨x, H1, I1, r1, d, u, rfl, e, mu, k⟩
  obtain ⟨od, I2⟩ := I1.lock e mu
  exact ⟨.ref d, _, I2, r1, k od (I1.nofrz e mu)⟩
theorem HI.lock {h : Hs} {as : List Addr} {H : Hp} {m : Nat} {a : Addr} {od : Obj} {kvs : List (D × D)} {kv : List (Key × V)} (hi : HI (M.g X.K) h as H) (ea : as[m]? = some a) (hl : H a = some (.dK kv)) (hk : RepKV keyK (M.g X.K) as H kvs kv) :
    Ext as H as (upd H a (.frz od (.dK kv))) ∧ HI (M.g X.K) (h.set m (.dic true false kvs)) as (upd H a (.frz od (.dK kv))) := by
  have ex := ext_set (o := HO.frz od (.dK kv)) ea hl (fun _ => by intro z; cases z) (fun _ _ => by intro z; cases z)
  refine ⟨ex, hi.set ea hl (fun _ => by intro z; cases z) (fun _ _ => by intro z; cases z) ⟨kv, ?_, hk.mono ex⟩⟩
  simp only [lkd, if_true]
  exact ⟨od, upd_same⟩
/-- an expression's value, walked -/
theorem pi_seq (K : Cok X M C sc n Wx cf) {a : E} {tg x : Expr} (ha : SE M X Wx cf a x) : PI X tg x (tI X M Wx (evalEs M.W cf M.cx [a]) .seq) := by
  refine ⟨fun pins s σ H Q I h => ?_⟩
  obtain ⟨σI, h, as, sl, hi, p⟩ := h
  simp only [evalEs, R.bind_assoc] at p
  -- by what it comes to
  cases e1 : evalE M.W cf M.cx a σI h with
  | no => rw [e1] at p; exact p.elim
  | exc c fs h1 =>
    rw [e1] at p
    refine (pi_tup (tl := tE (M.g X.K) Wx (evalE M.W cf M.cx a)) ha.1).run pins s σ H Q I ⟨σI, h, as, sl, hi, ?_⟩
    rw [e1]; exact p
  | ok d h1 =>
    rw [e1] at p
    simp only [R.bind_ok] at p
    have at1 : ∀ {R' : V → Hp → Prop}, (∀ v as' H', Ext as H as' H' → HI (M.g X.K) h1 as' H' → Rep (M.g X.K) as' H' d v → R' v H') → tE (M.g X.K) Wx (evalE M.W cf M.cx a) σ H R' :=
      fun k => ⟨σI, h, as, sl, hi, by rw [e1]; exact k⟩
    cases d with
    | tup ds =>
      simp only [itemsI, ofO_some] at p
      refine (pi_tup ha.1).run pins s σ H Q I (at1 fun v as' H' x' i' r' => ?_)
      simp only [Rep] at r'
      obtain ⟨a, vs, rfl, h2, hr⟩ := r'
      refine ⟨a, rfl, ⟨vs, SqT.of h2⟩, p _ as' H' x' ⟨i', ?_⟩ trivial⟩
      intro i h3 as3 H3 x3 i3 _
      have sq := SqT.of (K := X.K) (x3.tup _ _ h2)
      refine ⟨fun hl => ⟨vs, sq, by rw [← hr.length]; exact hl⟩, fun d hd => ?_⟩
      obtain ⟨w, e, rw_⟩ := hr.get hd
      refine ⟨⟨vs, w, sq, e⟩, ?_⟩
      rintro y H4 ⟨rfl, hy⟩
      have := hy vs sq
      rw [e] at this; cases this
      exact ⟨as3, Ext.refl, i3, rw_.mono x3⟩
    | con g =>
      simp only [itemsI] at p
      cases e2 : M.W.cons[g]? with
      | none => rw [e2] at p; exact p.elim
      | some ys =>
        rw [e2] at p
        simp only [Option.map_some, ofO_some] at p
        refine (pi_tup ha.1).run pins s σ H Q I (at1 fun v as' H' x' i' r' => ?_)
        simp only [Rep] at r'
        obtain ⟨a, rfl, h2⟩ := r'
        obtain ⟨vs, hv, _⟩ := K.con g ys a e2 h2
        refine ⟨a, rfl, ⟨vs, (hv H' as').1⟩, p _ as' H' x' ⟨i', ?_⟩ trivial⟩
        intro i h3 as3 H3 x3 i3 _
        have sq := (hv H3 as3).1
        have hr := (hv H3 as3).2
        refine ⟨fun hl => ⟨vs, sq, by rw [← hr.length]; exact hl⟩, fun d hd => ?_⟩
        obtain ⟨w, e, rw_⟩ := hr.get hd
        refine ⟨⟨vs, w, sq, e⟩, ?_⟩
        rintro y H4 ⟨rfl, hy⟩
        have := hy vs sq
        rw [e] at this; cases this
        exact ⟨as3, Ext.refl, i3, rw_⟩
    | ob m =>
      have list_ : ∀ {ds : List D} {mo : MO}, (h1[m]? = some (.lst ds) ∧ mo = .lst ds) ∨ (∃ ns : List Int, h1[m]? = some (.scr ns) ∧ ds = ns.map D.int ∧ mo = .scr ns) → postW X M Wx as H σ (.ok (ds, .keep m mo, h1) h1) Q →
          wpAny (model X.prog X.w) X.A (eval x X.env) (fun v s1 => wpAny (model X.prog X.w) X.A (pyIter v) (PIE X pins σ tg Q) X.xe s1) X.xe s := by
        intro ds mo e p
        refine (pi_list ha.1).run pins s σ H Q I (at1 fun v as' H' x' i' r' => ?_)
        simp only [Rep] at r'
        obtain ⟨a, rfl, ea⟩ := r'
        have e' : h1[m]? = some (.lst ds) ∨ ∃ ns : List Int, h1[m]? = some (.scr ns) ∧ ds = ns.map D.int := by
          rcases e with ⟨e, _⟩ | ⟨ns, e, e2, _⟩
          · exact .inl e
          · exact .inr ⟨ns, e, e2⟩
        obtain ⟨vs, sq, hr⟩ := lst_of i' e' ea
        refine ⟨a, rfl, ⟨vs, sq⟩, p _ as' H' x' ⟨i', ?_⟩ trivial⟩
        intro i h3 as3 H3 x3 i3 sm
        have e3 : h3[m]? = some (.lst ds) ∨ ∃ ns : List Int, h3[m]? = some (.scr ns) ∧ ds = ns.map D.int := by
          rcases e with ⟨e, rfl⟩ | ⟨ns, e, e2, rfl⟩
          · exact .inl sm
          · exact .inr ⟨ns, sm, e2⟩
        obtain ⟨vs, sq, hr⟩ := lst_of i3 e3 (x3.pre _ _ ea)
        refine ⟨fun hl => ⟨vs, sq, by rw [← hr.length]; exact hl⟩, fun d hd => ?_⟩
        obtain ⟨w, e, rw_⟩ := hr.get hd
        refine ⟨⟨vs, w, sq, e⟩, ?_⟩
        rintro y H4 ⟨rfl, hy⟩
        have := hy vs sq
        rw [e] at this; cases this
        exact ⟨as3, Ext.refl, i3, rw_⟩
      simp only [itemsI] at p
      split at p
      · rename_i ds e2
        exact list_ (.inl ⟨e2, rfl⟩) p
      · rename_i ns e2
        exact list_ (.inr ⟨ns, e2, rfl, rfl⟩) p
      · rename_i kvs e2
        -- a locked dict
        refine (pi_keys ha.1).run pins s σ H Q I (at1 fun v as' H' x' i' r' => ?_)
        simp only [Rep] at r'
        obtain ⟨a, rfl, ea⟩ := r'
        obtain ⟨kv, hl, hk⟩ := i'.ob m _ a e2 ea
        simp only [lkd, if_true] at hl
        obtain ⟨od, hl⟩ := hl
        exact ⟨a, od, rfl, .inl ⟨kv, hl, p _ as' H' x' ⟨i', walk_keys (m := m) hl hk⟩ trivial⟩⟩
      · rename_i kvs e2
        refine (pi_keys (pe_lockd ha.1)).run pins s σ H Q I (at1 fun v as' H' x' i' r' => ?_)
        simp only [Rep] at r'
        obtain ⟨a, rfl, ea⟩ := r'
        obtain ⟨kv, hl, hk⟩ := i'.ob m _ a e2 ea
        simp only [lkd, Bool.false_eq_true, if_false] at hl
        refine ⟨a, _, rfl, hl, True.intro, fun od nf => ⟨a, od, rfl, .inl ⟨kv, upd_same, ?_⟩⟩⟩
        obtain ⟨ex, i2⟩ := i'.lock (od := od) ea hl hk
        refine p _ as' _ (x'.trans ex) ⟨i2, walk_keys (m := m) upd_same (hk.mono ex)⟩ ?_
        exact ⟨a, ea, nf, fun o u q => by rw [x'.frz _ _ _ q] at hl; cases hl⟩
      · exact p.elim
    | _ => exact p.elim
/-- ranges -/
theorem walk_range {lo : Int} {n : Nat} {as : List Addr} {H : Hp} : WalkOk (M.g X.K) (Itr lo n) ((List.range n).map fun (k : Nat) => D.int (lo + (k : Int))) .none as H := by
  intro i h3 as3 H3 x3 i3 _
  refine ⟨fun hh => (by rw [List.length_map, List.length_range] at hh; exact hh), fun d hd => ?_⟩
  rw [List.getElem?_map] at hd
  obtain ⟨k, hk, rfl⟩ := Option.map_eq_some_iff.mp hd
  have hlt : i < n := by simpa using (List.getElem?_eq_some_iff.mp hk).1
  rw [List.getElem?_range hlt] at hk
  cases hk
  refine ⟨hlt, ?_⟩
  rintro y H4 ⟨rfl, rfl⟩
  exact ⟨as3, Ext.refl, i3, by simp only [Rep]⟩
theorem pi_rng1 (K : Cok X M C sc n Wx cf) {es : List E} {tg x : Expr} {p pos : Pos} (hg : glB sc (Str.ofString "range") = true) (hs : isStar x = false) (ha : PA X [x] (tEs (M.g X.K) Wx (evalEs M.W cf M.cx es))) : PI X tg (.Call (.Name (Str.ofString "range") p) [x] [] pos) (tI X M Wx (evalEs M.W cf M.cx es) .rng1) := by
  refine ⟨fun pins s σ H Q I h => ?_⟩
  obtain ⟨σI, h, as, sl, hi, p⟩ := h
  refine (pi_range1 (K.gl _ hg) (K.bl _ (by decide +kernel)) ha (by rw [star_one hs]; rfl)).run pins s σ H Q I ?_
  refine ⟨σI, h, as, sl, hi, ?_⟩
  cases e1 : evalEs M.W cf M.cx es σI h with
  | no => rw [e1] at p; exact p.elim
  | exc c fs h1 => rw [e1] at p; exact p
  | ok ds h1 =>
    rw [e1] at p
    simp only [R.bind_ok] at p
    intro vs as' H' x' i' r'
    match ds with
    | [] => exact p.elim
    | [d] =>
      obtain ⟨v, _, rfl, r1, rn⟩ := r'.cons_inv
      obtain rfl := rn.nil_inv
      cases d with
      | int j =>
        simp only [Rep] at r1
        subst r1
        simp only [itemsI] at p
        split at p
        · rename_i hj
          refine ⟨j, rfl, hj.1, hj.2, p _ as' H' x' ⟨i', walk_range⟩ trivial⟩
        · exact p.elim
      | _ => exact p.elim
    | d0 :: _ :: _ => cases d0 <;> exact p.elim
theorem pi_rng2 (K : Cok X M C sc n Wx cf) {es : List E} {tg x y : Expr} {p pos : Pos} (hg : glB sc (Str.ofString "range") = true) (hs : isStar x = false) (hs2 : isStar y = false) (ha : PA X [x, y] (tEs (M.g X.K) Wx (evalEs M.W cf M.cx es))) : PI X tg (.Call (.Name (Str.ofString "range") p) [x, y] [] pos) (tI X M Wx (evalEs M.W cf M.cx es) .rng2) := by
  refine ⟨fun pins s σ H Q I h => ?_⟩
  obtain ⟨σI, h, as, sl, hi, p⟩ := h
  refine (pi_range2 (K.gl _ hg) (K.bl _ (by decide +kernel)) ha (by rw [star_one hs, star_one hs2]; rfl) (by rw [star_one hs2]; rfl)).run pins s σ H Q I ?_
  refine ⟨σI, h, as, sl, hi, ?_⟩
  cases e1 : evalEs M.W cf M.cx es σI h with
  | no => rw [e1] at p; exact p.elim
  | exc c fs h1 => rw [e1] at p; exact p
  | ok ds h1 =>
    rw [e1] at p
    simp only [R.bind_ok] at p
    intro vs as' H' x' i' r'
    match ds with
    | [] => exact p.elim
    | [d] => cases d <;> exact p.elim
    | [d, d'] =>
      obtain ⟨v, _, rfl, r1, rn⟩ := r'.cons_inv
      obtain ⟨v', _, rfl, r2, rn⟩ := rn.cons_inv
      obtain rfl := rn.nil_inv
      cases d <;> cases d' <;> try exact p.elim
      simp only [Rep] at r1 r2
      subst r1 r2
      simp only [itemsI] at p
      split at p
      · rename_i i j hj
        refine ⟨_, _, rfl, hj, p _ as' H' x' ⟨i', walk_range⟩ trivial⟩
      · exact p.elim
    | d0 :: d1 :: _ :: _ => cases d0 <;> cases d1 <;> exact p.elim
end
end Rf
end

section
namespace Rf
open PySem PySem.Spec PyProof.Rows L2

section
variable {X : Cx} {M : Mx} {C : Ck} {sc : Scope} {n : Nat} {Wx : WX} {cf : CF} {cx : CXI}
/-! ## targets -/
/-- a target takes a value -/
def gT (G : Gx) (t : Tg) : TG := fun v σ H Q => ∃ σI h as d σ1, SL G σI as H σ ∧ HI G h as H ∧ Rep G as H d v ∧ bindT t d σI = some σ1 ∧ ∀ σ2, SL G σ1 as H σ2 → (∀ i, i ∉ tgIx t → σ2[i]? = σ[i]?) → Q σ2 H
theorem SL.set {G : Gx} {σI : Sg} {as : List Addr} {H : Hp} {σ : L2.St} {i : Nat} {d : D} {v : V} (s : SL G σI as H σ) (r : Rep G as H d v) : SL G (σI.set i (some d)) as H (σ.set i (some v)) := by
  refine ⟨by simp [s.len], fun j d' e => ?_, fun j a he e => ?_⟩
  rotate_left
  · by_cases hj : j = i
    · subst hj
      have hl : j < σI.length := by
        have := (List.getElem?_eq_some_iff.mp e).1
        simpa using this
      rw [List.getElem?_set_self hl] at e
      cases e
    · rw [List.getElem?_set_ne (Ne.symm hj)] at e
      rw [List.getElem?_set_ne (Ne.symm hj)]
      exact s.ex j a he e
  by_cases hj : j = i
  · subst hj
    have hl : j < σI.length := by
      have := (List.getElem?_eq_some_iff.mp e).1
      simpa using this
    rw [List.getElem?_set_self hl] at e
    cases e
    exact ⟨v, by rw [List.getElem?_set_self (by rw [← s.len]; exact hl)], r⟩
  · rw [List.getElem?_set_ne (Ne.symm hj)] at e
    obtain ⟨w, e2, r2⟩ := s.at_ j d' e
    exact ⟨w, by rw [List.getElem?_set_ne (Ne.symm hj)]; exact e2, r2⟩
theorem pg_names (K : Cok X M C sc n Wx cf) : ∀ {is : List Nat} {es : List Expr}, is.length = es.length → ((is.zip es).all fun p => nmB C sc p.1 p.2) = true →
    PGs X es (fun vs σ H Q => vs.length = es.length ∧ Q ((is.zip vs).foldl (fun σ p => σ.set p.1 (some p.2)) σ) H)
  | [], [], _, _ => ⟨fun pins s σ H vs us Q I r h => by
      obtain ⟨e, h⟩ := h
      cases vs with
      | nil => exact pgs_nil.run pins s σ H [] us Q I r ⟨rfl, h⟩
      | cons a b => simp at e⟩
  | [], _ :: _, h, _ => by simp at h
  | _ :: _, [], h, _ => by simp at h
  | i :: is, e :: es, hl, ha => by
    rw [List.zip_cons_cons, List.all_cons, Bool.and_eq_true] at ha
    obtain ⟨h1, h2⟩ := ha
    have ih := pg_names K (by simpa using hl) h2
    cases e <;> simp only [nmB, Bool.false_eq_true] at h1
    · rename_i x pos
      rw [Bool.and_eq_true] at h1
      obtain ⟨l1, l2⟩ := K.loc x h1.2
      have hg : PG X (.Name x pos) (gName i) := pg_name K.nd (by rw [K.N]; exact isC_ok h1.1) l1 l2
      refine ⟨fun pins s σ H vs us Q I r h => ?_⟩
      obtain ⟨e, h⟩ := h
      cases vs with
      | nil => simp at e
      | cons v vr => exact (pgs_cons hg ih).run pins s σ H (v :: vr) us Q I r ⟨v, vr, rfl, by simpa using e, h⟩
theorem names_len {env : Env} : ∀ {is : List Nat} {es : List Expr}, is.length = es.length → ((is.zip es).all fun p => nmB C sc p.1 p.2) = true →
    (assignEach es env).length = es.length ∧ (assignEach es env).findIdx? (·.1) = none
  | [], [], _, _ => ⟨rfl, rfl⟩
  | [], _ :: _, h, _ => by simp at h
  | _ :: _, [], h, _ => by simp at h
  | i :: is, e :: es, hl, ha => by
    rw [List.zip_cons_cons, List.all_cons, Bool.and_eq_true] at ha
    obtain ⟨h1, h2⟩ := ha
    obtain ⟨a, b⟩ := names_len (env := env) (is := is) (es := es) (by simpa using hl) h2
    cases e <;> simp only [nmB, Bool.false_eq_true] at h1
    · rename_i x pos
      have ee : assignEach (Expr.Name x pos :: es) env = (false, assign (.Name x pos) env) :: assignEach es env := rfl
      rw [ee]
      refine ⟨by rw [List.length_cons, List.length_cons, a], ?_⟩
      rw [List.findIdx?_cons]
      simp only [Bool.false_eq_true, if_false, b, Option.map_none]
theorem SL.folds {G : Gx} {as : List Addr} {H : Hp} : ∀ {is : List Nat} {ds : List D} {vs : List V} {σI : Sg} {σ : L2.St}, SL G σI as H σ → Reps G as H ds vs →
    SL G ((is.zip ds).foldl (fun σ p => σ.set p.1 (some p.2)) σI) as H ((is.zip vs).foldl (fun σ p => σ.set p.1 (some p.2)) σ)
  | [], _, _, _, _, s, _ => by simpa using s
  | i :: is, [], _, _, _, s, r => by simp only [Reps] at r; subst r; simpa using s
  | i :: is, d :: ds, _, _, _, s, r => by
    obtain ⟨v, vs, rfl, h1, h2⟩ := r.cons_inv
    rw [List.zip_cons_cons, List.zip_cons_cons, List.foldl_cons, List.foldl_cons]
    exact SL.folds (s.set h1) h2
theorem folds_out {α : Type} {i : Nat} : ∀ {is : List Nat} {vs : List α} {σ : List (Option α)}, i ∉ is → ((is.zip vs).foldl (fun σ p => σ.set p.1 (some p.2)) σ)[i]? = σ[i]?
  | [], _, _, _ => by simp
  | j :: is, [], _, _ => by simp
  | j :: is, v :: vs, σ, h => by
    rw [List.zip_cons_cons, List.foldl_cons, folds_out (fun q => h (List.mem_cons_of_mem _ q)), List.getElem?_set_ne (fun e => h (by rw [← e]; exact List.mem_cons_self))]
theorem pg_tg (K : Cok X M C sc n Wx cf) {t : Tg} {e : Expr} (h : tgB C sc t e = true) : PG X e (gT (M.g X.K) t) := by
  cases t with
  | nm i =>
    cases e <;> simp only [tgB, nmB, Bool.false_eq_true] at h
    rename_i x pos
    rw [Bool.and_eq_true] at h
    obtain ⟨l1, l2⟩ := K.loc x h.2
    refine ⟨fun pins s σ H v u Q I r q => ?_⟩
    obtain ⟨σI, hh, as, d, σ1, sl, hi, rp, eb, k⟩ := q
    simp only [bindT, Option.some.injEq] at eb
    subst eb
    refine (pg_name K.nd (by rw [K.N]; exact isC_ok h.1) l1 l2).run pins s σ H v u Q I r (k _ (sl.set rp) fun j hj => ?_)
    rw [List.getElem?_set_ne]
    intro q
    exact hj (by simp only [tgIx, List.mem_singleton]; exact q.symm)
  | tp is =>
    cases e <;> simp only [tgB, Bool.false_eq_true] at h
    rename_i es k pos
    simp only [Bool.and_eq_true, beq_iff_eq, Bool.not_eq_true'] at h
    obtain ⟨h, hot⟩ := h
    refine ⟨fun pins s σ H v u Q I r q => ?_⟩
    obtain ⟨σI, hh, as, d, σ1, sl, hi, rp, eb, kk⟩ := q
    cases d with
    | tup ds =>
      simp only [bindT] at eb
      split at eb
      · rename_i hl
        cases eb
        simp only [Rep] at rp
        obtain ⟨a, vs, rfl, h1, hr⟩ := rp
        obtain ⟨n1, n2⟩ := names_len (env := X.env) h.1 h.2
        have hvl : vs.length = es.length := by rw [← hr.length, hl, h.1]
        refine (pg_tup (n := es.length) (K.cool hot).calm (pg_names K h.1 h.2) n1 n2).run pins s σ H _ u Q I r ⟨a, vs, rfl, SqT.of h1, hvl, hvl, kk _ (SL.folds sl hr) fun j hj => folds_out hj⟩
      · cases eb
    | _ => simp [bindT] at eb
/-! ## a comprehension's block -/
theorem free_relabel {sc : Scope} : ∀ {names : List (Str × NameKind)} {x : Str}, names.lookup x = some .free →
    (names.map fun (n, k) => if (k == NameKind.free && sc.kind == .function && sc.names.lookup n == some .cell) then (n, NameKind.cell) else (n, k)).lookup x = some .free ∨
    (names.map fun (n, k) => if (k == NameKind.free && sc.kind == .function && sc.names.lookup n == some .cell) then (n, NameKind.cell) else (n, k)).lookup x = some .cell
  | [], _, h => by simp at h
  | (y, k0) :: r, x, h => by
    have ih := @free_relabel sc r x
    show List.lookup x ((if (k0 == NameKind.free && sc.kind == .function && sc.names.lookup y == some .cell) = true then (y, NameKind.cell) else (y, k0)) :: (r.map _)) = _ ∨ List.lookup x ((if (k0 == NameKind.free && sc.kind == .function && sc.names.lookup y == some .cell) = true then (y, NameKind.cell) else (y, k0)) :: (r.map _)) = _
    by_cases hx : x = y
    · subst hx
      rw [List.lookup_cons, beq_self_eq_true] at h
      simp only at h
      cases h
      split
      · exact .inr (by rw [List.lookup_cons, beq_self_eq_true])
      · exact .inl (by rw [List.lookup_cons, beq_self_eq_true])
    · rw [List.lookup_cons, beq_eq_false_iff_ne.mpr hx] at h
      split
      · rw [List.lookup_cons, beq_eq_false_iff_ne.mpr hx]; exact ih h
      · rw [List.lookup_cons, beq_eq_false_iff_ne.mpr hx]; exact ih h
theorem visB_cases {sc : Scope} {x : Str} (h : visB sc x = true) : sc.names.lookup x = some .local ∨ sc.names.lookup x = some .cell ∨ sc.names.lookup x = some .free := by
  simp only [visB, Bool.or_eq_true] at h
  rcases h with (h | h) | h
  · exact .inl (kindB_ok h)
  · exact .inr (.inl (kindB_ok h))
  · exact .inr (.inr (kindB_ok h))
theorem locB_cases {sc : Scope} {x : Str} (h : locB sc x = true) : sc.names.lookup x = some .local ∨ sc.names.lookup x = some .cell := by
  simp only [locB, Bool.or_eq_true] at h
  rcases h with h | h
  · exact .inl (kindB_ok h)
  · exact .inr (kindB_ok h)
theorem Cok.blk (K : Cok X M C sc n Wx cf) (hh : C.hot = false) (hl : C.lam = none) (s : Shared) (H : Hp) (scope : Scope) (Cc : Addr) (cl : List (Str × Addr)) (fp : List Addr) :
    Cok (X.blk s H scope (compEnvC scope cl Cc X.env) fp) M C scope n (fun _ _ _ _ => False) cf := by
  have look : ∀ (x : Str) k, k ≠ .free → scope.names.lookup x = some k → (compEnvC scope cl Cc X.env).scope.names.lookup x = some k := fun x k hk h => lookup_relS_keep (sc := X.env.scope) hk h
  have lookf : ∀ (x : Str), scope.names.lookup x = some .free → (compEnvC scope cl Cc X.env).scope.names.lookup x = some .free ∨ (compEnvC scope cl Cc X.env).scope.names.lookup x = some .cell := fun x h => free_relabel (sc := X.env.scope) h
  have k := K.cool hh
  refine ⟨fun _ => ⟨k.calm, k.room, k.nex, k.nxd, k.ncx, k.vir, k.fns, k.cls, k.mks, k.exs, k.exm⟩, fun _ _ _ _ _ q => (by rw [hh] at q; cases q), fun _ _ _ _ _ _ _ q => (by rw [hl] at q; cases q), fun h1 h2 => K.lmk h1 h2, K.N, K.nd, fun x h => ?_, fun x h => ?_, fun x h => ?_, look, lookf, K.hu, K.gd, takes0, PassesOwn.never, K.con, K.scr, K.glb, K.bl, K.gs, K.gi⟩
  · rcases visB_cases h with e | e | e
    · exact .inl (look x _ (by decide) e)
    · exact .inr (.inl (look x _ (by decide) e))
    · rcases lookf x e with e | e
      · exact .inr (.inr e)
      · exact .inr (.inl e)
  · rcases locB_cases h with e | e
    · exact ⟨.inl (look x _ (by decide) e), .inr (look x _ (by decide) e)⟩
    · refine ⟨.inr (look x _ (by decide) e), .inl ?_⟩
      show (scope.names.lookup x == some .cell) = true
      rw [e]; rfl
  · exact look x _ (by decide) (kindB_ok h)
theorem blk_ok (K : Cok X M C sc n Wx cf) {scope : Scope} {own : List (Str × Nat)} (h : blkC C.N sc scope own = true) : BlkOk X.N X.env.scope scope own := by
  have b := blkOk_by h
  rw [K.N]
  refine ⟨b.kind, b.uniq, b.ix, fun y hy e => ?_, b.own⟩
  rcases b.free y hy e with e | e
  · exact .inl (K.scn _ _ (by decide) e)
  · rcases K.scf _ e with e | e
    · exact .inr e
    · exact .inl e
end
end Rf
end

section
namespace Rf
open PySem PySem.Spec PyProof.Rows L2

section
variable {X : Cx} {M : Mx} {C : Ck} {sc : Scope} {n : Nat} {Wx : WX} {cf : CF}
/-! ## unlocking -/
def unlQ (X : Cx) (g : Gd) (Q : VK) : VK := fun v H => match g with
  | .lock _ _ _ => ∃ d od u, H d = some (.frz od u) ∧ (∀ o' u', X.H_0 d ≠ some (.frz o' u')) ∧ Q v (upd H d u)
  | _ => Q v H
theorem EP.unl {pins : List (Addr × Obj)} {σ : L2.St} {g : Gd} {Q : VK} {u : Value} {s : Shared} (h : EP X pins σ (unlQ X g Q) u s) : EP X pins σ Q u s := by
  obtain ⟨v, H, I, r, q⟩ := h
  cases g with
  | lock n t kvs =>
    obtain ⟨d, od, w, e, nf, q⟩ := q
    exact ⟨v, _, I.unlock e nf, r, q⟩
  | none => exact ⟨v, H, I, r, q⟩
  | keep n mo => exact ⟨v, H, I, r, q⟩
theorem HI.unlock {h : Hs} {as : List Addr} {H : Hp} {m : Nat} {t : Bool} {kvs : List (D × D)} (hi : HI (M.g X.K) h as H) (e : h[m]? = some (.dic true t kvs)) :
    ∃ d od u, as[m]? = some d ∧ H d = some (.frz od u) ∧ HI (M.g X.K) (h.set m (.dic false t kvs)) as (upd H d u) := by
  obtain ⟨d, ed, ob⟩ := hi.get e
  have go : ∀ (od : Obj) (u : HO), H d = some (.frz od u) → ObR (M.g X.K) as (upd H d u) d (.dic false t kvs) → ∃ d od u, as[m]? = some d ∧ H d = some (.frz od u) ∧ HI (M.g X.K) (h.set m (.dic false t kvs)) as (upd H d u) := by
    intro od u hf ob'
    refine ⟨d, od, u, ed, hf, ⟨fun dd fs eq => ?_, fun c q as0 eq => ?_⟩, tabs_set hi.tb (hi.noT (List.mem_of_getElem? ed)), by simp [hi.len], hi.nd, fun k mo a e1 e2 => ?_⟩
    rotate_left
    · obtain ⟨⟨q1, q2⟩, q3⟩ := hi.xd.2 c q as0 eq
      exact ⟨⟨q1, by rw [upd_ne (fun e => q1 (by rw [e]; exact List.mem_of_getElem? ed))]; exact q2⟩, q3⟩
    rotate_left
    · obtain ⟨q1, vs, q2, q3⟩ := hi.xd.1 dd fs eq
      have tt : ∀ (a : Addr) (xs : List V), H a = some (.tup xs) → upd H d u a = some (.tup xs) := fun a xs h => tup_upd (fun ys q => by rw [hf] at q; cases q) h
      exact ⟨q1, vs, by rw [upd_ne (fun e => q1 (by rw [e]; exact List.mem_of_getElem? ed))]; exact q2, Paired.mapP q3 fun _ _ z => ⟨z.1, z.2.mono0 (fun _ _ h => h) tt⟩⟩
    by_cases hk : k = m
    · subst hk
      rw [ed] at e2; cases e2
      have hl : k < h.length := (List.getElem?_eq_some_iff.mp e).1
      rw [List.getElem?_set_self hl] at e1; cases e1
      exact ob'
    · rw [List.getElem?_set_ne (Ne.symm hk)] at e1
      refine (hi.ob k mo a e1 e2).mono0 (fun _ _ h => h) (fun a xs h => tup_upd (fun ys q => by rw [hf] at q; cases q) h) (upd_ne fun q => hk ?_)
      subst q
      exact (List.getElem?_inj (List.getElem?_eq_some_iff.mp e2).1 hi.nd).mp (e2.trans ed.symm)
  have tp : ∀ {od : Obj} {u : HO}, H d = some (.frz od u) → ∀ (a : Addr) (xs : List V), H a = some (.tup xs) → upd H d u a = some (.tup xs) := fun hf a xs h => tup_upd (fun ys q => by rw [hf] at q; cases q) h
  cases t with
  | false =>
    obtain ⟨kv, hl, hk⟩ := ob
    simp only [lkd, if_true] at hl
    obtain ⟨od, hl⟩ := hl
    refine go od _ hl ⟨kv, ?_, Paired.mapP hk fun _ _ z => ⟨z.1, z.2.mono0 (fun _ _ h => h) (tp hl)⟩⟩
    simp only [lkd, Bool.false_eq_true, if_false]; exact upd_same
  | true =>
    obtain ⟨kv, hl, hk⟩ := ob
    simp only [lkd, if_true] at hl
    obtain ⟨od, hl⟩ := hl
    refine go od _ hl ⟨kv, ?_, Paired.mapP hk fun _ _ z => ⟨z.1, z.2.mono0 (fun _ _ h => h) (tp hl)⟩⟩
    simp only [lkd, Bool.false_eq_true, if_false]; exact upd_same
/-- from ahead of the lock to behind the unlocking -/
theorem Ext.unlock {as as' : List Addr} {H H' : Hp} {d : Addr} {u : HO} {od : Obj} (x : Ext as H as' H') (hd : d ∈ as') (hf : H' d = some (.frz od u)) (nf : ∀ o w, H d ≠ some (.frz o w)) : Ext as H as' (upd H' d u) :=
  ⟨x.pre, fun a xs h => tup_upd (fun ys q => by rw [hf] at q; cases q) (x.tup a xs h), fun a o w h => by
    rw [upd_ne (show a ≠ d from fun q => nf o w (by rw [← q]; exact h))]; exact x.frz a o w h, fun a o h hn nt => by rw [upd_ne (show a ≠ d from fun q => hn (by rw [q]; exact hd))]; exact x.out a o h hn nt, fun a ps h => by
    obtain ⟨more, e⟩ := x.tbl a ps h
    exact ⟨more, by rw [upd_ne (fun q => by rw [q, hf] at e; cases e)]; exact e⟩, x.fresh⟩
/-- an object that stands already becomes one of ours -/
theorem HI.add {h : Hs} {as : List Addr} {H : Hp} {p : Addr} {xs : List D} {vs : List V} (hi : HI (M.g X.K) h as H) (hp : p ∉ as) (e : H p = some (.lst vs)) (r : Reps (M.g X.K) as H xs vs) : HI (M.g X.K) (h ++ [.lst xs]) (as ++ [p]) H := by
  have pre : ∀ (n : Nat) (a : Addr), as[n]? = some a → (as ++ [p])[n]? = some a := fun n a e => by rw [List.getElem?_append_left (List.getElem?_eq_some_iff.mp e).1]; exact e
  refine ⟨⟨fun dd fs eq => ?_, fun c q as0 eq => ?_⟩, hi.tb, by simp [hi.len], ?_, fun n mo a e1 e2 => ?_⟩
  rotate_left
  · obtain ⟨⟨q1, q2⟩, q3⟩ := hi.xd.2 c q as0 eq
    refine ⟨⟨fun z => ?_, q2⟩, fun m a z => pre m a (q3 m a z)⟩
    rcases List.mem_append.mp z with z | z
    · exact q1 z
    · rw [List.mem_singleton] at z
      rw [z, e] at q2; cases q2
  rotate_right
  · obtain ⟨q1, vs', q2, q3⟩ := hi.xd.1 dd fs eq
    refine ⟨fun q => ?_, vs', q2, Paired.mapP q3 fun _ _ z => ⟨z.1, z.2.mono0 pre (fun _ _ h => h)⟩⟩
    rcases List.mem_append.mp q with q | q
    · exact q1 q
    · rw [List.mem_singleton] at q
      rw [q, e] at q2; cases q2
  · rw [List.nodup_append]
    refine ⟨hi.nd, by simp, fun a ha b hb => ?_⟩
    simp at hb; subst hb
    exact fun e => hp (e ▸ ha)
  · by_cases hn : n < h.length
    · rw [List.getElem?_append_left hn] at e1
      rw [List.getElem?_append_left (by rw [hi.len]; exact hn)] at e2
      exact (hi.ob n mo a e1 e2).mono0 pre (fun _ _ h => h) rfl
    · have hn2 : n = h.length := by
        have := (List.getElem?_eq_some_iff.mp e1).1
        simp at this; omega
      subst hn2
      rw [List.getElem?_append_right (by omega)] at e1
      rw [List.getElem?_append_right (by rw [hi.len]; exact Nat.le_refl _)] at e2
      simp [hi.len] at e1 e2
      subst e1 e2
      exact ⟨vs, e, r.mono0 pre (fun _ _ h => h)⟩
theorem SL.wipe {G : Gx} {as : List Addr} {H : Hp} {σI : Sg} {σ : L2.St} (hx : G.ex = none) (s : SL G σI as H σ) : ∀ own : List Nat, SL G (wipeI σI own) as H (L2.wipe σ own)
  | [] => s
  | v :: vs => by
    have ih := SL.wipe hx s vs
    refine ⟨by simp [wipeI, L2.wipe, ih.len], fun j d e => ?_, fun _ _ q => by rw [hx] at q; cases q⟩
    simp only [wipeI, L2.wipe] at e ⊢
    by_cases hj : j = v
    · subst hj
      have hl : j < (wipeI σI vs).length := by
        have := (List.getElem?_eq_some_iff.mp e).1
        simpa using this
      rw [List.getElem?_set_self hl] at e; cases e
    · rw [List.getElem?_set_ne (Ne.symm hj)] at e ⊢
      exact ih.at_ j d e
theorem wipe_eq {σ σ2 : L2.St} {vs : List Nat} (h : ∀ i, i ∉ vs → σ2[i]? = (L2.wipe σ vs)[i]?) (hl : σ2.length = (L2.wipe σ vs).length) : L2.wipe σ2 vs = L2.wipe σ vs := by
  have in_ : ∀ (σ : L2.St) (i : Nat) (vs : List Nat), i ∈ vs → i < σ.length → (L2.wipe σ vs)[i]? = some none := by
    intro σ i vs
    induction vs with
    | nil => intro h _; cases h
    | cons v vs ih =>
      intro h hl
      unfold L2.wipe
      by_cases hi : i = v
      · subst hi
        rw [List.getElem?_set_self (by rw [wipe_length]; exact hl)]
      · rw [List.getElem?_set_ne (Ne.symm hi)]
        exact ih (by rcases List.mem_cons.mp h with e | e; exact absurd e hi; exact e) hl
  have hl2 : σ2.length = σ.length := by rw [hl, wipe_length]
  refine List.ext_getElem? fun i => ?_
  by_cases hi : i ∈ vs
  · by_cases hb : i < σ.length
    · rw [in_ σ i vs hi hb, in_ σ2 i vs hi (by omega)]
    · rw [List.getElem?_eq_none (by rw [wipe_length]; omega), List.getElem?_eq_none (by rw [wipe_length]; omega)]
  · rw [wipe_out hi, h i hi]
/-- a block's tests -/
def tC (G : Gx) (Wx : WX) (ev : Sg → Hs → R Bool) : TT := fun σ H Q => ∃ σI h as, SL G σI as H σ ∧ HI G h as H ∧ post G Wx rB as H σ (ev σI h) Q
theorem pts_of {ifs : List Expr} {cd : List E} (h : match ifs with | [] => cd = [] | [e] => ∃ c, cd = [c] ∧ SE M X Wx cf c e | _ => False) : PTs X ifs (tC (M.g X.K) Wx (fun σ h => (evalEs M.W cf M.cx cd σ h).bind cdB)) := by
  match ifs with
  | [] =>
    simp only at h
    subst h
    refine ⟨fun pins s σ H Q I q => ?_⟩
    obtain ⟨σI, hh, as, sl, hi, p⟩ := q
    exact pts_nil.run pins s σ H Q I (p true as H Ext.refl hi rfl)
  | [e] =>
    obtain ⟨c, rfl, hc⟩ := h
    refine ⟨fun pins s σ H Q I q => ?_⟩
    obtain ⟨σI, hh, as, sl, hi, p⟩ := q
    refine (pts_one hc.2).run pins s σ H Q I ⟨σI, hh, as, sl, hi, ?_⟩
    simp only [evalEs, R.bind_assoc, R.bind_ok] at p
    exact p
  | _ :: _ :: _ => exact h.elim
theorem lc_tr (K : Cok X M C sc n Wx cf) (hh : C.hot = false) (hnl : C.lam = none) {own : List Nat} {tg : Tg} {k : Ik} {its cd : List E} {el : E} (hown : ∀ i ∈ tgIx tg, i ∈ own) {σ : L2.St} {H : Hp} {Q : VK}
    (h : tE (M.g X.K) Wx (evalE M.W cf M.cx (.lc own tg k its cd el)) σ H Q) :
    ∃ g, tLc (tI X M Wx (evalEs M.W cf M.cx its) k) (gT (M.g X.K) tg) (tC (M.g X.K) (fun _ _ _ _ => False) (fun σ h => (evalEs M.W cf M.cx cd σ h).bind cdB)) (tE (M.g X.K) (fun _ _ _ _ => False) (evalE M.W cf M.cx el)) own σ H (unlQ X g Q) := by
  obtain ⟨σI, h, as, sl, hi, p⟩ := h
  simp only [evalE] at p
  rw [← R.bind_assoc] at p
  cases e0 : ((evalEs M.W cf M.cx its σI h).bind fun xs h => ofO (itemsI M.W.cons k xs h) h) with
  | no => rw [e0] at p; exact p.elim
  | exc c fs h1 =>
    rw [e0] at p
    refine ⟨.none, σI, h, as, sl, hi, ?_⟩
    rw [e0]; exact p
  | ok ig h0 =>
    rw [e0] at p
    obtain ⟨items, g, hg⟩ := ig
    simp only [R.bind_ok] at p
    refine ⟨g, σI, h, as, sl, hi, ?_⟩
    rw [e0]
    rintro J as1 H1 x1 ⟨i1, w1⟩ gd Dd hD
    simp only at i1 w1 gd
    -- the invariant
    generalize hturn : lcTurn (fun d => bindT tg d (wipeI σI own)) (fun σ1 h => (evalEs M.W cf M.cx cd σ1 h).bind cdB) (fun σ1 h => evalE M.W cf M.cx el σ1 h) = turn at p
    refine ⟨fun i m Hc => m = items.length - i ∧ i ≤ items.length ∧ ∃ hc asc acc accV, Ext as1 H1 asc Hc ∧ HI (M.g X.K) hc asc Hc ∧ Dd ∉ asc ∧ Hc Dd = some (.lst accV) ∧ Reps (M.g X.K) asc Hc acc accV ∧
      post (M.g X.K) Wx (Rep (M.g X.K)) as H σ ((lcI g turn (items.drop i) acc hc).bind lcEnd) Q, ⟨items.length, by simp, Nat.zero_le _, hg, as1, [], [], ext_tup hD, i1.other hD, i1.fresh hD, upd_same, by simp only [Reps], p⟩, ?_⟩
    rintro i m Hc ⟨rfl, hile, hc, asc, acc, accV, xc, ic, hDn, eD, ra, pc⟩
    -- the slots
    have slc : SL (M.g X.K) (wipeI σI own) asc Hc (L2.wipe σ own) := ((sl.mono x1).mono xc).wipe ((K.cool hh).nex hnl) own
    by_cases hlt : i < items.length
    · have hdrop : items.drop i = items[i] :: items.drop (i + 1) := List.drop_eq_getElem_cons hlt
      rw [hdrop] at pc
      simp only [lcI] at pc
      by_cases hs : same g hc
      · rw [if_pos hs] at pc
        obtain ⟨go, yl⟩ := (w1 i hc asc Hc xc ic hs).2 items[i] (by simp [hlt])
        refine .inr ⟨go, fun Hn => items.length - (i + 1) = items.length - (i + 1) ∧ i + 1 ≤ items.length ∧ ∃ hc asc acc accV, Ext as1 H1 asc Hn ∧ HI (M.g X.K) hc asc Hn ∧ Dd ∉ asc ∧ Hn Dd = some (.lst accV) ∧ Reps (M.g X.K) asc Hn acc accV ∧
          post (M.g X.K) Wx (Rep (M.g X.K)) as H σ ((lcI g turn (items.drop (i + 1)) acc hc).bind lcEnd) Q, fun H' q => ⟨items.length - (i + 1), by omega, q⟩, fun x H' y => ?_⟩
        obtain ⟨as', x', i', rx⟩ := yl x H' y
        have hD' : Dd ∉ as' := fun q => by
          have := x'.fresh Dd q hDn
          rw [eD] at this; cases this
        have eD' := x'.out _ _ eD hD' (fun _ z => (nomatch z))
        have et : turn items[i] hc = ((ofO (bindT tg items[i] (wipeI σI own)) hc).bind fun σ1 h => ((evalEs M.W cf M.cx cd σ1 h).bind cdB).bind fun b h => if b then (evalE M.W cf M.cx el σ1 h).bind fun x h => R.ok (some x) h else R.ok none h).shut := by rw [← hturn]; rfl
        rw [et] at pc
        cases eb : bindT tg items[i] (wipeI σI own) with
        | none => rw [eb] at pc; exact pc.elim
        | some σ1 =>
          rw [eb] at pc
          simp only [ofO_some, R.bind_ok] at pc
          refine ⟨wipeI σI own, hc, as', items[i], σ1, slc.mono x', i', rx, eb, fun σ2 sl2 hout => ⟨wipe_eq (fun j hj => hout j fun q => hj (hown j q)) ?_, ?_⟩⟩
          · rw [← sl2.len, ← slc.len]
            have : ∀ {t : Tg} {d : D} {σ σ1 : Sg}, bindT t d σ = some σ1 → σ1.length = σ.length := by
              intro t d σ σ1 e
              cases t with
              | nm i => simp only [bindT, Option.some.injEq] at e; subst e; simp
              | tp is =>
                cases d with
                | tup ds =>
                  simp only [bindT] at e
                  split at e
                  · cases e
                    have : ∀ (l : List (Nat × D)) (σ : Sg), (l.foldl (fun σ p => σ.set p.1 (some p.2)) σ).length = σ.length := by
                      intro l
                      induction l with
                      | nil => intro σ; rfl
                      | cons a l ih => intro σ; rw [List.foldl_cons, ih, List.length_set]
                    exact this _ _
                  · cases e
                | _ => simp [bindT] at e
            exact this eb
          -- the tests
          cases ec : (evalEs M.W cf M.cx cd σ1 hc).bind cdB with
          | no => rw [ec] at pc; exact pc.elim
          | exc c fs h2 => rw [ec] at pc; exact pc.elim
          | ok b h2 =>
            rw [ec] at pc
            simp only [R.bind_ok] at pc
            refine ⟨σ1, hc, as', sl2, i', ?_⟩
            show post _ _ _ _ _ _ ((evalEs M.W cf M.cx cd σ1 hc).bind cdB) _
            rw [ec]
            rintro b' as2 H2 x2 i2 rfl
            have hD2 : Dd ∉ as2 := fun q => by
              have := x2.fresh Dd q hD'
              rw [eD'] at this; cases this
            have eD2 := x2.out _ _ eD' hD2 (fun _ z => (nomatch z))
            cases b with
            | false =>
              simp only [Bool.false_eq_true, if_false, R.shut_ok, R.bind_ok] at pc ⊢
              refine ⟨trivial, by omega, h2, as2, acc, accV, xc.trans (x'.trans x2), i2, hD2, eD2, (ra.mono x').mono x2, ?_⟩
              exact pc
            | true =>
              simp only [if_true] at pc ⊢
              cases ee : evalE M.W cf M.cx el σ1 h2 with
              | no => rw [ee] at pc; exact pc.elim
              | exc c fs h3 => rw [ee] at pc; exact pc.elim
              | ok d h3 =>
                rw [ee] at pc
                simp only [R.bind_ok, R.shut_ok] at pc
                split at pc
                · rename_i hlen
                  refine ⟨σ1, h2, as2, sl2.mono x2, i2, ?_⟩
                  show post _ _ _ _ _ _ (evalE M.W cf M.cx el σ1 h2) _
                  rw [ee]
                  rintro v as3 H3 x3 i3 rv
                  have hD3 : Dd ∉ as3 := fun q => by
                    have := x3.fresh Dd q hD2
                    rw [eD2] at this; cases this
                  have eD3 := x3.out _ _ eD2 hD3 (fun _ z => (nomatch z))
                  have ra3 := ((ra.mono x').mono x2).mono x3
                  refine ⟨accV, eD3, by rw [← ra3.length]; exact hlen, trivial, by omega, h3, as3, acc ++ [d], accV ++ [v], ?_, ?_, hD3, upd_same, ?_, ?_⟩
                  · -- the list grows: none of ours
                    refine ⟨fun n a e => ((xc.trans (x'.trans x2)).trans x3).pre n a e, fun a xs e => tup_upd (fun ys q => by rw [eD3] at q; cases q) (((xc.trans (x'.trans x2)).trans x3).tup a xs e), fun a o w e => frz_upd (fun ob w q => by rw [eD3] at q; cases q) (((xc.trans (x'.trans x2)).trans x3).frz a o w e), fun a o e hn nt => ?_, fun a ps e => ?_, ((xc.trans (x'.trans x2)).trans x3).fresh⟩
                    · rw [upd_ne (fun q => by subst q; rw [hD] at e; cases e)]
                      exact ((xc.trans (x'.trans x2)).trans x3).out a o e hn nt
                    · obtain ⟨more, e'⟩ := ((xc.trans (x'.trans x2)).trans x3).tbl a ps e
                      exact ⟨more, by rw [upd_ne (fun q => by rw [q, eD3] at e'; cases e')]; exact e'⟩
                  · refine ⟨⟨fun dd fs eq => ?_, fun c q as0 eq => ?_⟩, tabs_set i3.tb (by rw [eD3]; intro u q; cases q; exact ⟨fun _ z => (nomatch z), fun _ z => (nomatch z)⟩), i3.len, i3.nd, fun n mo a e1 e2 => (i3.ob n mo a e1 e2).mono0 (fun _ _ h => h) (fun a xs e => tup_upd (fun ys q => by rw [eD3] at q; cases q) e) (upd_ne fun q => hD3 (by subst q; exact List.mem_of_getElem? e2))⟩
                    rotate_left
                    · obtain ⟨⟨q1, q2⟩, q3⟩ := i3.xd.2 c q as0 eq
                      exact ⟨⟨q1, by rw [upd_ne (fun e => by rw [e, eD3] at q2; cases q2)]; exact q2⟩, q3⟩
                    obtain ⟨q1, vs', q2, q3⟩ := i3.xd.1 dd fs eq
                    exact ⟨q1, vs', by rw [upd_ne (fun e => by rw [e, eD3] at q2; cases q2)]; exact q2, Paired.mapP q3 fun _ _ z => ⟨z.1, z.2.mono0 (fun _ _ h => h) (fun a xs e => tup_upd (fun ys q => by rw [eD3] at q; cases q) e)⟩⟩
                  · exact (Reps.append ra3 (Reps.one rv)).mono0 (fun _ _ h => h) (fun a xs e => tup_upd (fun ys q => by rw [eD3] at q; cases q) e)
                  · exact pc
                · exact pc.elim
      · rw [if_neg hs] at pc; exact pc.elim
    · have hie : i = items.length := by omega
      subst hie
      rw [List.drop_length] at pc
      simp only [lcI] at pc
      by_cases hs : same g hc
      · rw [if_pos hs] at pc
        refine .inl ⟨(w1 _ hc asc Hc xc ic hs).1 (Nat.le_refl _), ?_⟩
        simp only [R.bind_ok, lcEnd] at pc
        have fin : ∀ (h' : Hs) (H' : Hp), endG g hc = h' → HI (M.g X.K) h' asc H' → H' Dd = some (.lst accV) → Reps (M.g X.K) asc H' acc accV → Ext as H asc H' → Q (.ref Dd) H' := by
          intro h' H' e i' eD' ra' x'
          rw [e] at pc
          refine pc _ (asc ++ [Dd]) H' ?_ (i'.add hDn eD' ra') ?_
          · refine ⟨fun n a e => by rw [List.getElem?_append_left (List.getElem?_eq_some_iff.mp (x'.pre n a e)).1]; exact x'.pre n a e, x'.tup, x'.frz, fun a o e hn nt => x'.out a o e (fun q => hn (List.mem_append_left _ q)) nt, x'.tbl, fun a hm hn => ?_⟩
            rcases List.mem_append.mp hm with hm | hm
            · exact x'.fresh a hm hn
            · rw [List.mem_singleton.mp hm]
              cases e5 : H Dd with
              | none => rfl
              | some o =>
                have q1 : Dd ∉ as1 := i1.fresh hD
                by_cases nt : ∃ ps, o = .tbl ps
                · obtain ⟨ps, rfl⟩ := nt
                  obtain ⟨more, e6⟩ := x1.tbl Dd ps e5
                  rw [e6] at hD; cases hD
                · rw [x1.out Dd o e5 q1 fun ps q => nt ⟨ps, q⟩] at hD; cases hD
          · simp only [Rep]
            exact ⟨Dd, rfl, by rw [← i'.len]; simp⟩
        cases g with
        | none => exact fin _ Hc rfl ic eD ra (x1.trans xc)
        | keep n' mo => exact fin _ Hc rfl ic eD ra (x1.trans xc)
        | lock n' t kvs =>
          obtain ⟨a, ea, nf0, nf⟩ := gd
          obtain ⟨d, od, u, ed, hf, iu⟩ := ic.unlock hs
          obtain rfl : a = d := by
            have := xc.pre _ _ ea
            rw [ed] at this; exact (Option.some.inj this).symm
          have hDd : Dd ≠ a := fun q => hDn (q ▸ List.mem_of_getElem? ed)
          refine ⟨a, od, u, hf, nf0, fin _ _ rfl iu (by rw [upd_ne hDd]; exact eD) (ra.mono0 (fun _ _ h => h) fun b xs e => tup_upd (fun ys q => by rw [hf] at q; cases q) e) ((x1.trans xc).unlock (List.mem_of_getElem? ed) hf nf)⟩
      · rw [if_neg hs] at pc; exact pc.elim
theorem se_lc (K : Cok X M C sc n Wx cf) (hh : C.hot = false) (hnl : C.lam = none) {own : List Nat} {tg : Tg} {k : Ik} {its cd : List E} {el : E} {elt tg' iter : Expr} {ifs : List Expr} {scope : Scope} {pos : Pos}
    (hb : blkC C.N sc scope (ownP C own) = true) (htg : tgB C scope tg tg' = true) (hown : ∀ i ∈ tgIx tg, i ∈ own) (hpi : PI X tg' iter (tI X M Wx (evalEs M.W cf M.cx its) k)) (hset : isSet iter = false)
    (hcd : ∀ {X' : Cx}, X'.K = X.K → Cok X' M C scope n (fun _ _ _ _ => False) cf → PTs X' ifs (tC (M.g X.K) (fun _ _ _ _ => False) (fun σ h => (evalEs M.W cf M.cx cd σ h).bind cdB)))
    (hel : ∀ {X' : Cx}, X'.K = X.K → Cok X' M C scope n (fun _ _ _ _ => False) cf → PE X' elt (tE (M.g X.K) (fun _ _ _ _ => False) (evalE M.W cf M.cx el))) :
    PE X (.ListComp elt [⟨tg', iter, ifs, 0⟩] scope pos) (tE (M.g X.K) Wx (evalE M.W cf M.cx (.lc own tg k its cd el))) := by
  refine ⟨fun pins s σ H Q I h => ?_⟩
  obtain ⟨g, h⟩ := lc_tr K hh hnl hown h
  have hfold : ∀ x, foldedSetIterable iter X.env x = pure x := by
    intro x
    cases iter <;> first | rfl | (simp [isSet] at hset)
  have hvs : (ownP C own).map (·.2) = own := by
    unfold ownP; rw [List.map_map]
    exact (List.map_congr_left fun _ _ => rfl).trans (List.map_id _)
  have rule := pe_lc (pos := pos) (g := gT (M.g X.K) tg) (tt := tC (M.g X.K) (fun _ _ _ _ => False) (fun σ h => (evalEs M.W cf M.cx cd σ h).bind cdB)) (te := tE (M.g X.K) (fun _ _ _ _ => False) (evalE M.W cf M.cx el)) (K.cool hh).calm K.nd hpi (blk_ok K hb)
    (fun s H Cc cl fp => pg_tg (K.blk hh hnl s H scope Cc cl fp) htg) (fun s H Cc cl fp => hcd rfl (K.blk hh hnl s H scope Cc cl fp)) (fun s H Cc cl fp => hel rfl (K.blk hh hnl s H scope Cc cl fp)) hfold
  rw [hvs] at rule
  exact thn (rule.run pins s σ H (unlQ X g Q) I h) fun u s' q => EP.unl q
end
end Rf
end

section
namespace Rf
open PySem PySem.Spec PyProof.Rows L2

section
variable {X : Cx} {M : Mx} {C : Ck} {sc : Scope} {n : Nat} {Wx : WX} {cf : CF}
inductive SL2 (M : Mx) (X : Cx) (Wx : WX) (cf : CF) : List E → List Expr → Prop where
  | nil : SL2 M X Wx cf [] []
  | cons {e x es xs} (h1 : SE M X Wx cf e x ∧ isStar x = false) (h2 : SL2 M X Wx cf es xs) : SL2 M X Wx cf (e :: es) (x :: xs)
def OptE (M : Mx) (X : Cx) (Wx : WX) (cf : CF) (lo : List E) (l : Option Expr) : Prop := match l with | none => lo = [] | some e => ∃ a, lo = [a] ∧ SE M X Wx cf a e
theorem pa_of {es : List E} {xs : List Expr} (h : SL2 M X Wx cf es xs) : PA X xs (tEs (M.g X.K) Wx (evalEs M.W cf M.cx es)) := by
  induction h with
  | nil =>
    refine pa_imp pa_nil ?_
    rintro σ H Q ⟨σI, h, as, sl, hi, p⟩
    exact p [] as H Ext.refl hi (by simp only [Reps])
  | cons h1 h2 ih =>
    rename_i e x es xs
    refine pa_imp (pa_cons h1.1.1 ih (star_one h1.2 _ _)) ?_
    rintro σ H Q ⟨σI, h, as, sl, hi, p⟩
    simp only [evalEs] at p
    obtain ⟨q1, q2, q3, sl', hi', p'⟩ := then1 sl hi p
    refine ⟨q1, q2, q3, sl', hi', p'.imp ?_⟩
    rintro v H1 ⟨d, h1, as1, _, x1, sl1, i1, r1, p1⟩
    obtain ⟨q1, q2, q3, sl', hi', p'⟩ := thens sl1 i1 p1
    refine ⟨q1, q2, q3, sl', hi', p'.imp ?_⟩
    rintro vs H2 ⟨ds, h2, as2, _, x2, sl2, i2, rs, p2⟩
    refine p2 _ as2 H2 Ext.refl i2 ?_
    simp only [Reps]
    exact ⟨v, vs, rfl, r1.mono x2, rs⟩
theorem se_neg {a : E} {x : Expr} {pos : Pos} (ha : SE M X Wx cf a x) : PE X (.UnaryOp .USub x pos) (tE (M.g X.K) Wx (evalE M.W cf M.cx (.neg a))) := by
  refine pe_imp (pe_un un_neg ha.1) ?_
  rintro σ H Q ⟨σI, h, as, sl, hi, p⟩
  simp only [evalE] at p
  obtain ⟨q1, q2, q3, sl', hi', p'⟩ := then1 sl hi p
  refine ⟨q1, q2, q3, sl', hi', p'.imp ?_⟩
  rintro v H1 ⟨d, h1, as1, _, x1, sl1, i1, r1, p1⟩
  cases d with
  | int i =>
    simp only [Rep] at r1; subst r1
    exact ⟨i, rfl, p1 _ as1 H1 Ext.refl i1 (by simp only [Rep])⟩
  | _ => exact p1.elim
def rBlC (M : Mx) (K : PySem.W.Frag) (Wx : WX) (σ : L2.St) (b : Bf) : List V → Hp → VK → Prop := fun xs H Q => ∃ ds h as, HI (M.g K) h as H ∧ Reps (M.g K) as H ds xs ∧ post (M.g K) Wx (Rep (M.g K)) as H σ (bltC M.W b ds h) Q
theorem bl_listC (K : Cok X M C sc n Wx cf) (hh : C.hot = false) (σ' : L2.St) : CallR X (.type "list") (rBlC M X.K Wx σ' .list) := by
  intro pins s σ H xs us Q I r hh
  obtain ⟨ds, h, as, hi, rs, p⟩ := hh
  simp only [bltC] at p
  split at p
  · rename_i g
    obtain ⟨v, _, rfl, r1, rn⟩ := rs.cons_inv
    obtain rfl := rn.nil_inv
    split at p
    · rename_i hg
      subst hg
      simp only [Rep] at r1
      obtain ⟨a, rfl, ha⟩ := r1
      refine call_list_of pins s σ H _ us Q I r ⟨a, _, rfl, .inl (K.scr a ha H), fun q hq => ?_⟩
      refine p _ (as ++ [q]) _ (ext_new hq) (hi.new hq ⟨_, upd_same, Reps.ints⟩) ?_
      simp only [Rep]
      exact ⟨q, rfl, by rw [← hi.len]; simp⟩
    · split at p
      · rename_i ys ey
        simp only [Rep] at r1
        obtain ⟨a, rfl, ha⟩ := r1
        obtain ⟨ws, hv, _⟩ := K.con g ys a ey ha
        refine call_list_of pins s σ H _ us Q I r ⟨a, ws, rfl, .inr (hv H as).1, fun q hq => ?_⟩
        refine p _ (as ++ [q]) _ (ext_new hq) (hi.new hq ⟨_, upd_same, (hv H as).2.mono (ext_new hq)⟩) ?_
        simp only [Rep]
        exact ⟨q, rfl, by rw [← hi.len]; simp⟩
      · exact p.elim
  · exact bl_list (K.cool hh).calm σ' pins s σ H xs us Q I r ⟨ds, h, as, hi, rs, p⟩
/-- a built-in function called -/
theorem se_blt (K : Cok X M C sc n Wx cf) (hot : C.hot = false) {b : Bf} {es : List E} {x : Str} {xs : List Expr} {p pos : Pos} {nm : Str} {fl : Bool} (h1 : glB sc x = true) (h2 : okN x = true) (h3 : bfName b = some (nm, fl)) (h4 : x = nm) (h5 : chkEs C es sc xs = true) (h6 : es ≠ []) (h : SL2 M X Wx cf es xs) :
    PE X (.Call (.Name x p) xs [] pos) (tE (M.g X.K) Wx (evalE M.W cf M.cx (.blt b es))) := by
  subst h4
  refine ⟨fun pins s σ H Q I q => ?_⟩
  obtain ⟨σI, hh, as, sl, hi, p⟩ := q
  simp only [evalE] at p
  have tt : tCB (rBlC M X.K Wx σ b) (tEs (M.g X.K) Wx (evalEs M.W cf M.cx es)) σ H Q := by
    obtain ⟨q1, q2, q3, sl', hi', p'⟩ := thens sl hi p
    refine ⟨q1, q2, q3, sl', hi', p'.imp ?_⟩
    rintro vs H1 ⟨ds, h1, as1, _, x1, sl1, i1, r1, p1⟩
    exact ⟨ds, h1, as1, i1, r1, p1⟩
  have pa := pa_of h
  cases xs with
  | nil => cases es with
    | nil => exact absurd rfl h6
    | cons e es => simp [chkEs] at h5
  | cons y ys =>
    cases es with
    | nil => exact absurd rfl h6
    | cons e es =>
      simp only [chkEs, Bool.and_eq_true, Bool.not_eq_true'] at h5
      have st1 := star_one h5.1.2 ys X.env
      have st2 : (backTo pos (starEach ys X.env)).any (·.1) = false := chkEs_star h5.2
      obtain ⟨d1, d2, d3⟩ := okN_ok h2
      have mm := bl_mm (M := M) (Wx := Wx) (K.cool hot).calm σ
      have rr := bl_repr (M := M) (Wx := Wx) K.gd K.hu σ
      cases b <;> simp only [bfName, Option.some.injEq, Prod.mk.injEq, reduceCtorEq] at h3 <;> obtain ⟨rfl, rfl⟩ := h3
      · exact (pe_callB (bl_len σ) (K.gl _ h1) (K.bl _ (by decide +kernel)) (by decide +kernel) pa d3 d1 st1 st2).run pins s σ H Q I tt
      · exact (pe_callB (bl_abs σ) (K.gl _ h1) (K.bl _ (by decide +kernel)) (by decide +kernel) pa d3 d1 st1 st2).run pins s σ H Q I tt
      · exact (pe_callTy (bl_int σ) (K.gl _ h1) (K.bl _ (by decide +kernel)) (by decide +kernel) pa d3 d1 st1 st2).run pins s σ H Q I tt
      · exact (pe_callTy (bl_str σ) (K.gl _ h1) (K.bl _ (by decide +kernel)) (by decide +kernel) pa d3 d1 st1 st2).run pins s σ H Q I tt
      · exact (pe_callTy (bl_listC K hot σ) (K.gl _ h1) (K.bl _ (by decide +kernel)) (by decide +kernel) pa d3 d1 st1 st2).run pins s σ H Q I tt
      · exact (pe_callTy (bl_tuple σ) (K.gl _ h1) (K.bl _ (by decide +kernel)) (by decide +kernel) pa d3 d1 st1 st2).run pins s σ H Q I tt
      · exact (pe_callTy (bl_dict σ) (K.gl _ h1) (K.bl _ (by decide +kernel)) (by decide +kernel) pa d3 d1 st1 st2).run pins s σ H Q I tt
      · exact (pe_callB mm.1 (K.gl _ h1) (K.bl _ (by decide +kernel)) (by decide +kernel) pa d3 d1 st1 st2).run pins s σ H Q I tt
      · exact (pe_callB mm.2 (K.gl _ h1) (K.bl _ (by decide +kernel)) (by decide +kernel) pa d3 d1 st1 st2).run pins s σ H Q I tt
      · exact (pe_callB rr (K.gl _ h1) (K.bl _ (by decide +kernel)) (by decide +kernel) pa d3 d1 st1 st2).run pins s σ H Q I tt
theorem se_isi (K : Cok X M C sc n Wx cf) {b : Bf} {T : String} {es : List E} {a : Expr} {p p2 pos : Pos} (h1 : glB sc (Str.ofString "isinstance") = true) (h2 : glB sc (Str.ofString T) = true) (h3 : tyOfB b = some T) (h5 : isStar a = false) (h : SL2 M X Wx cf es [a]) :
    PE X (.Call (.Name (Str.ofString "isinstance") p) [a, .Name (Str.ofString T) p2] [] pos) (tE (M.g X.K) Wx (evalE M.W cf M.cx (.blt b es))) := by
  refine ⟨fun pins s σ H Q I q => ?_⟩
  obtain ⟨σI, hh, as, sl, hi, p⟩ := q
  simp only [evalE] at p
  have hT : PE X (.Name (Str.ofString T) p2) (L2.tC (.ty T)) := by
    cases b <;> simp only [tyOfB, Option.some.injEq, reduceCtorEq] at h3 <;> subst h3
    all_goals exact pe_bltn (K.gl _ h2) (K.bl _ (by decide +kernel)) (by decide +kernel) rfl (by decide +kernel) (by decide +kernel)
  cases h with
  | cons h1' h2' =>
    cases h2'
    rename_i e
    have pa : PA X [a, .Name (Str.ofString T) p2] (tCons (tE (M.g X.K) Wx (evalE M.W cf M.cx e)) (tCons (L2.tC (.ty T)) tNil)) := pa_cons h1'.1.1 (pa_cons hT pa_nil rfl) (star_one h5 _ _)
    refine (pe_callB (bl_is (M := M) (Wx := Wx) h3 σ) (K.gl _ h1) (K.bl _ (by decide +kernel)) (by decide +kernel) pa (by decide +kernel) (by decide +kernel) (star_one h5 _ _) rfl).run pins s σ H Q I ?_
    simp only [evalEs, R.bind_assoc, R.bind_ok] at p
    obtain ⟨q1, q2, q3, sl', hi', p'⟩ := then1 sl hi p
    refine ⟨q1, q2, q3, sl', hi', p'.imp ?_⟩
    rintro v H1 ⟨d, h1, as1, _, x1, sl1, i1, r1, p1⟩
    refine ⟨v, d, h1, as1, rfl, i1, r1, ?_⟩
    cases b <;> first | exact p1 | (simp [tyOfB] at h3)
end
section
variable {M : Mx} {C : Ck} {n : Nat} {cf : CF}
abbrev SEW (M : Mx) (X : Cx) (Wx : WX) (cf : CF) (ie : E) (e : Expr) : Prop := SE M X Wx cf ie e ∧ (∀ op xs pos, e = .BoolOp op xs pos → PW X e (tT (M.g X.K) Wx (evalE M.W cf M.cx ie)))
theorem SEW.of {X : Cx} {Wx : WX} {ie : E} {e : Expr} (h : SE M X Wx cf ie e) (hb : ∀ op xs pos, e ≠ .BoolOp op xs pos) : SEW M X Wx cf ie e := ⟨h, fun op xs pos q => absurd q (hb op xs pos)⟩
mutual
theorem sE : ∀ (ie : E) {X : Cx} {sc : Scope} {Wx : WX} {e : Expr}, chkE C ie sc e = true → Cok X M C sc n Wx cf → SEW M X Wx cf ie e
  | .var i, X, sc, Wx, e, h, K => by
    cases e <;> simp only [chkE, Bool.false_eq_true, Bool.and_eq_true] at h
    have := se_var (pos := by assumption) K h.1.1 h.1.2 h.2
    exact .of ⟨this, mkT this fun _ => rfl⟩ (by intros; simp)
  | .cst d, X, sc, Wx, e, h, K => by
    cases e <;> simp only [chkE, Bool.false_eq_true, Bool.and_eq_true] at h
    have := se_cst (X := X) (M := M) (Wx := Wx) (cf := cf) (pos := by assumption) (k := by assumption) h
    exact .of ⟨this, mkT this fun _ => rfl⟩ (by intros; simp)
  | .glb g, X, sc, Wx, e, h, K => by
    cases e <;> simp only [chkE, Bool.false_eq_true, Bool.and_eq_true] at h
    have := se_glb (pos := by assumption) K h.1.1 h.1.2 h.2
    exact .of ⟨this, mkT this fun _ => rfl⟩ (by intros; simp)
  | .fnv g, X, sc, Wx, e, h, K => by
    cases e <;> simp only [chkE, Bool.false_eq_true, Bool.and_eq_true, Bool.not_eq_true'] at h
    have := se_fnv (pos := by assumption) K h.1 h.2.1.1 h.2.1.2 h.2.2
    exact .of ⟨this, mkT this fun _ => rfl⟩ (by intros; simp)
  | .bin o a b, X, sc, Wx, e, h, K => by
    cases e <;> simp only [chkE, Bool.false_eq_true, Bool.and_eq_true] at h
    have := se_bin (pos := by assumption) K h.1.1 (sE a h.1.2 K).1 (sE b h.2 K).1
    exact .of ⟨this, mkT this fun _ => rfl⟩ (by intros; simp)
  | .neg a, X, sc, Wx, e, h, K => by
    cases e <;> try (simp only [chkE, Bool.false_eq_true] at h; done)
    rename_i op x pos
    cases op <;> simp only [chkE, Bool.false_eq_true] at h
    have := se_neg (pos := pos) (sE a h K).1
    exact .of ⟨this, mkT this fun _ => rfl⟩ (by intros; simp)
  | .cmp o a b, X, sc, Wx, e, h, K => by
    cases e <;> try (simp only [chkE, Bool.false_eq_true] at h; done)
    rename_i l ops rs pos
    match ops, rs with
    | [op], [r] =>
      simp only [chkE, Bool.and_eq_true, Bool.not_eq_true'] at h
      exact .of (se_cmp K h.1.1.1 (sE a h.1.1.2 K).1 (sE b h.1.2 K).1 h.2) (by intros; simp)
    | [], _ => simp [chkE] at h
    | [_], [] => simp [chkE] at h
    | [_], _ :: _ :: _ => simp [chkE] at h
    | _ :: _ :: _, _ => simp [chkE] at h
  | .chn o o' a b c, X, sc, Wx, e, h, K => by
    cases e <;> try (simp only [chkE, Bool.false_eq_true] at h; done)
    rename_i l ops rs pos
    match ops, rs with
    | [op, op'], [m, r] =>
      simp only [chkE, Bool.and_eq_true, Bool.not_eq_true'] at h
      exact .of (se_chn K h.1.1.1.1.1 h.1.1.1.1.2 (sE a h.1.1.1.2 K).1 (sE b h.1.1.2 K).1 (sE c h.1.2 K).1 h.2) (by intros; simp)
    | [], _ => simp [chkE] at h
    | [_], _ => simp [chkE] at h
    | [_, _], [] => simp [chkE] at h
    | [_, _], [_] => simp [chkE] at h
    | [_, _], _ :: _ :: _ :: _ => simp [chkE] at h
    | _ :: _ :: _ :: _, _ => simp [chkE] at h
  | .and a b, X, sc, Wx, e, h, K => by
    cases e <;> try (simp only [chkE, Bool.false_eq_true] at h; done)
    rename_i op xs pos
    cases op <;> try (simp only [chkE, Bool.false_eq_true] at h; done)
    match xs with
    | [] => simp [chkE] at h
    | [_] => simp [chkE] at h
    | [x, y] =>
      simp only [chkE, Bool.and_eq_true] at h
      have hb := (sE b h.2 K).1
      have := se_and (pos := pos) K (sE a h.1 K).1 (pe_one hb.1) (pw_and1 hb.2)
      exact ⟨⟨this.1, this.2.pt⟩, fun _ _ _ _ => this.2⟩
    | x :: y :: z :: r =>
      simp only [chkE, Bool.and_eq_true] at h
      have hb := sE b h.2 K
      have := se_and (pos := pos) K (sE a h.1 K).1 hb.1.1 (hb.2 _ _ _ rfl)
      exact ⟨⟨this.1, this.2.pt⟩, fun _ _ _ _ => this.2⟩
  | .or a b, X, sc, Wx, e, h, K => by
    cases e <;> try (simp only [chkE, Bool.false_eq_true] at h; done)
    rename_i op xs pos
    cases op <;> try (simp only [chkE, Bool.false_eq_true] at h; done)
    match xs with
    | [] => simp [chkE] at h
    | [_] => simp [chkE] at h
    | [x, y] =>
      simp only [chkE, Bool.and_eq_true] at h
      have hb := (sE b h.2 K).1
      have := se_or (pos := pos) K (sE a h.1 K).1 (pe_one hb.1) (pw_or1 hb.2)
      exact ⟨⟨this.1, this.2.pt⟩, fun _ _ _ _ => this.2⟩
    | x :: y :: z :: r =>
      simp only [chkE, Bool.and_eq_true] at h
      have hb := sE b h.2 K
      have := se_or (pos := pos) K (sE a h.1 K).1 hb.1.1 (hb.2 _ _ _ rfl)
      exact ⟨⟨this.1, this.2.pt⟩, fun _ _ _ _ => this.2⟩
  | .not a, X, sc, Wx, e, h, K => by
    cases e <;> try (simp only [chkE, Bool.false_eq_true] at h; done)
    rename_i op x pos
    cases op <;> simp only [chkE, Bool.false_eq_true] at h
    exact .of (se_not K (sE a h K).1) (by intros; simp)
  | .ife c a b, X, sc, Wx, e, h, K => by
    cases e <;> simp only [chkE, Bool.false_eq_true, Bool.and_eq_true] at h
    exact .of (se_ife K (sE c h.1.1 K).1 (sE a h.1.2 K).1 (sE b h.2 K).1) (by intros; simp)
  | .tup es, X, sc, Wx, e, h, K => by
    cases e <;> simp only [chkE, Bool.false_eq_true] at h
    have := se_tup (k := by assumption) (pos := by assumption) (pa_of (sEs es h K))
    exact .of ⟨this, mkT this fun _ => rfl⟩ (by intros; simp)
  | .lst es, X, sc, Wx, e, h, K => by
    cases e <;> simp only [chkE, Bool.false_eq_true] at h
    have := se_lst (pos := by assumption) (pa_of (sEs es h K))
    exact .of ⟨this, mkT this fun _ => rfl⟩ (by intros; simp)
  | .dic t ks vs, X, sc, Wx, e, h, K => by
    cases e <;> try (simp only [chkE, Bool.false_eq_true] at h; done)
    rename_i xs ys pos
    simp only [chkE, Bool.and_eq_true, List.isEmpty_iff] at h
    obtain ⟨⟨⟨rfl, rfl⟩, rfl⟩, rfl⟩ := h
    have := se_dic (X := X) (M := M) (Wx := Wx) (cf := cf) (t := t) (pos := pos)
    exact .of ⟨this, mkT this fun _ => rfl⟩ (by intros; simp)
  | .ix a i, X, sc, Wx, e, h, K => by
    cases e <;> try (simp only [chkE, Bool.false_eq_true] at h; done)
    rename_i x y pos
    simp only [chkE, Bool.and_eq_true, Bool.not_eq_true'] at h
    have := se_ix (pos := pos) K (sE a h.1.1 K).1 (sE i h.1.2 K).1 h.2
    exact .of ⟨this, mkT this fun _ => rfl⟩ (by intros; simp)
  | .slc a lo hi, X, sc, Wx, e, h, K => by
    cases e <;> try (simp only [chkE, Bool.false_eq_true] at h; done)
    rename_i x y pos
    cases y <;> try (simp only [chkE, Bool.false_eq_true] at h; done)
    rename_i l u st p2
    cases st <;> simp only [chkE, Bool.false_eq_true, Bool.and_eq_true] at h
    obtain ⟨⟨h0, h1⟩, h2⟩ := h
    have hl : OptE M X Wx cf lo l := by
      cases l with
      | none => exact List.isEmpty_iff.mp h1
      | some l => cases sEs lo h1 K with
        | cons q1 q2 => cases q2; exact ⟨_, rfl, q1.1⟩
    have hu : OptE M X Wx cf hi u := by
      cases u with
      | none => exact List.isEmpty_iff.mp h2
      | some l => cases sEs hi h2 K with
        | cons q1 q2 => cases q2; exact ⟨_, rfl, q1.1⟩
    have := se_slc (p2 := p2) (pos := pos) K (sE a h0 K).1 hl hu
    exact .of ⟨this, mkT this fun _ => rfl⟩ (by intros; simp)
  | .gst g s, X, sc, Wx, e, h, K => by
    cases e <;> simp only [chkE, Bool.false_eq_true, Bool.and_eq_true] at h
    have := se_gst (pos := by assumption) (n := n) (M := M) (cf := cf) K (of_decide_eq_true h.1.1) h.1.2 h.2
    exact .of ⟨this, mkT this fun _ => rfl⟩ (by intros; simp)
  | .gni g i, X, sc, Wx, e, h, K => by
    cases e <;> simp only [chkE, Bool.false_eq_true, Bool.and_eq_true] at h
    have := se_gni (pos := by assumption) (n := n) (M := M) (cf := cf) K (of_decide_eq_true h.1.1) h.1.2 h.2
    exact .of ⟨this, mkT this fun _ => rfl⟩ (by intros; simp)
  | .back a, X, sc, Wx, e, h, K => by
    unfold chkE at h
    cases eb : backOf e with
    | none => rw [eb] at h; cases h
    | some x =>
    rw [eb] at h
    obtain ⟨k, p1, p2, p3, pos, rfl⟩ := backOf_ok eb
    have := se_back (k := k) (p1 := p1) (p2 := p2) (p3 := p3) (pos := pos) (sE a h K).1
    exact .of ⟨this, mkT this fun _ => rfl⟩ (by intros; simp)
  | .fld a f, X, sc, Wx, e, h, K => by
    cases e <;> try (simp only [chkE, Bool.false_eq_true] at h; done)
    rename_i x g pos
    simp only [chkE, Bool.and_eq_true, decide_eq_true_eq, Bool.not_eq_true'] at h
    obtain ⟨hh, ⟨h1, rfl⟩, h2⟩ := h
    have := se_fld (f := f) (pos := pos) K hh (sE a h1 K).1 h2
    exact .of ⟨this, mkT this fun _ => rfl⟩ (by intros; simp)
  | .cal f es, X, sc, Wx, e, h, K => by
    cases e <;> try (simp only [chkE, Bool.false_eq_true] at h; done)
    rename_i fn xs kw pos
    cases fn <;> try (simp only [chkE, Bool.false_eq_true] at h; done)
    cases kw <;> simp only [chkE, Bool.false_eq_true, Bool.and_eq_true, Bool.not_eq_true'] at h
    obtain ⟨hh, h⟩ := h
    have := se_cal (p := by assumption) (pos := pos) K hh h.1.1.1 h.1.1.2 h.1.2 h.2 (pa_of (sEs es h.2 K))
    exact .of ⟨this, mkT this fun _ => rfl⟩ (by intros; simp)
  | .cav f es, X, sc, Wx, e, h, K => by
    cases e <;> try (simp only [chkE, Bool.false_eq_true] at h; done)
    rename_i fn xs kw pos
    cases fn <;> try (simp only [chkE, Bool.false_eq_true] at h; done)
    cases kw <;> simp only [chkE, Bool.false_eq_true, Bool.and_eq_true, Bool.not_eq_true'] at h
    obtain ⟨hh, h⟩ := h
    have := se_cav (p := by assumption) (pos := pos) K hh h.1.1.1 h.1.1.2 h.1.2 h.2 (pa_of (sEs es h.2 K))
    exact .of ⟨this, mkT this fun _ => rfl⟩ (by intros; simp)
  | .new f es, X, sc, Wx, e, h, K => by
    cases e <;> try (simp only [chkE, Bool.false_eq_true] at h; done)
    rename_i fn xs kw pos
    cases fn <;> try (simp only [chkE, Bool.false_eq_true] at h; done)
    cases kw <;> simp only [chkE, Bool.false_eq_true, Bool.and_eq_true, decide_eq_true_eq, Bool.not_eq_true'] at h
    obtain ⟨hh, h⟩ := h
    have := se_new (p := by assumption) (pos := pos) K hh h.1.1.1.1 h.1.1.1.2 h.1.1.2 h.1.2 h.2 (pa_of (sEs es h.2 K))
    exact .of ⟨this, mkT this fun _ => rfl⟩ (by intros; simp)
  | .met o m es, X, sc, Wx, e, h, K => by
    cases e <;> try (simp only [chkE, Bool.false_eq_true] at h; done)
    rename_i fn xs kw pos
    cases fn <;> try (simp only [chkE, Bool.false_eq_true] at h; done)
    rename_i y g ap
    cases kw <;> simp only [chkE, Bool.false_eq_true, Bool.and_eq_true, decide_eq_true_eq, Bool.not_eq_true'] at h
    obtain ⟨hh, ⟨⟨⟨⟨h1, rfl⟩, h2⟩, h3⟩, h4⟩, h5⟩ := h
    have := se_met (m := m) K hh (sE o h1 K).1 h2 h3 h4 h5 (pa_of (sEs es h4 K))
    exact .of ⟨this, mkT this fun _ => rfl⟩ (by intros; simp)
  | .blt b es, X, sc, Wx, e, h, K => by
    cases e <;> try (simp only [chkE, Bool.false_eq_true] at h; done)
    rename_i fn xs kw pos
    cases fn <;> try (simp only [chkE, Bool.false_eq_true] at h; done)
    rename_i x p
    cases kw <;> simp only [chkE, Bool.false_eq_true, Bool.and_eq_true, Bool.not_eq_true'] at h
    obtain ⟨hh, ⟨h1, h2⟩, h3⟩ := h
    have : PE X (.Call (.Name x p) xs [] pos) (tE (M.g X.K) Wx (evalE M.W cf M.cx (.blt b es))) := by
      cases hb : bfName b with
      | some nf =>
        obtain ⟨nm, fl⟩ := nf
        rw [hb] at h3
        simp only [Bool.and_eq_true, decide_eq_true_eq, Bool.not_eq_true', List.isEmpty_eq_false_iff] at h3
        exact se_blt K hh h1 h2 hb h3.1.1 h3.1.2 h3.2 (sEs es h3.1.2 K)
      | none =>
        rw [hb] at h3
        simp only at h3
        split at h3
        · rename_i T a y p2 hT
          simp only [Bool.and_eq_true, decide_eq_true_eq] at h3
          obtain ⟨⟨⟨⟨rfl, rfl⟩, h4⟩, h5⟩, h6⟩ := h3
          have := sEs es h6 K
          exact se_isi K h1 h4 hT (by cases this with | cons q1 q2 => exact q1.2) this
        · cases h3
    exact .of ⟨this, mkT this fun _ => rfl⟩ (by intros; simp)
  | .lc own tg k its cd el, X, sc, Wx, e, h, K => by
    cases e <;> try (simp only [chkE, Bool.false_eq_true] at h; done)
    rename_i elt gens scope pos
    match gens with
    | [] => simp [chkE] at h
    | _ :: _ :: _ => simp [chkE] at h
    | [⟨tg', iter, ifs, asy⟩] =>
        simp only [chkE, Bool.and_eq_true, Bool.not_eq_true', decide_eq_true_eq, List.all_eq_true] at h
        obtain ⟨⟨⟨⟨⟨⟨⟨⟨⟨⟨hh, hnl⟩, rfl⟩, h1⟩, h2⟩, h3⟩, h4⟩, h5⟩, h6⟩, h7⟩, h8⟩ := h
        have hpi : PI X tg' iter (tI X M Wx (evalEs M.W cf M.cx its) k) := by
          cases k <;> simp only [Bool.false_eq_true, Bool.and_eq_true, decide_eq_true_eq] at h8
          · cases sEs its h8.1 K with
            | cons q1 q2 => cases q2; exact pi_seq K q1.1
          · split at h8
            · rename_i p a pos
              simp only [Bool.and_eq_true, decide_eq_true_eq] at h8
              obtain ⟨⟨rfl, h9⟩, h10⟩ := h8
              have := sEs its h10 K
              exact pi_rng1 K h9 (by cases this with | cons q1 q2 => exact q1.2) (pa_of this)
            · cases h8
          · split at h8
            · rename_i p a b pos
              simp only [Bool.and_eq_true, decide_eq_true_eq] at h8
              obtain ⟨⟨rfl, h9⟩, h10⟩ := h8
              have := sEs its h10 K
              exact pi_rng2 K h9 (by cases this with | cons q1 q2 => exact q1.2) (by cases this with | cons q1 q2 => cases q2 with | cons q3 q4 => exact q3.2) (pa_of this)
            · cases h8
        have := se_lc (pos := pos) (scope := scope) K hh (Option.isNone_iff_eq_none.mp hnl) h1 h2 h3 hpi h7 (cd := cd) (ifs := ifs) (fun {X'} e K' => by
          rw [← e]
          refine pts_of ?_
          cases sEs cd h4 K' with
          | nil => rfl
          | cons q1 q2 =>
            cases q2 with
            | nil => exact ⟨_, rfl, q1.1⟩
            | cons _ _ => simp at h5) (fun {X'} e K' => by rw [← e]; exact (sE el h6 K').1.1)
        exact .of ⟨this, mkT this fun _ => rfl⟩ (by intros; simp)
  | .exf i f, X, sc, Wx, e, h, K => by
    cases e <;> try (simp only [chkE, Bool.false_eq_true] at h; done)
    rename_i x g pos
    cases x <;> try (simp only [chkE, Bool.false_eq_true] at h; done)
    simp only [chkE, Bool.and_eq_true, decide_eq_true_eq] at h
    obtain ⟨⟨⟨⟨⟨h1, h2⟩, h3⟩, h4⟩, h5⟩, rfl⟩ := h
    have := K.exr i _ f (by assumption) pos h1 h2 (isC_ok h3) (K.vis _ h4) h5
    exact .of ⟨this, mkT this fun _ => rfl⟩ (by intros; simp)
  | .cml v j es cs, X, sc, Wx, e, h, K => by
    cases e <;> try (simp only [chkE, Bool.false_eq_true] at h; done)
    rename_i fn xs kw pos
    cases fn <;> try (simp only [chkE, Bool.false_eq_true] at h; done)
    rename_i x p
    cases kw <;> simp only [chkE, Bool.false_eq_true, Bool.and_eq_true, Bool.not_eq_true', decide_eq_true_eq] at h
    obtain ⟨hh, ⟨⟨⟨hm, h1⟩, h2⟩, h3⟩, h4⟩ := h
    have : PE X (.Call (.Name x p) xs [] pos) (tE (M.g X.K) Wx (evalE M.W cf M.cx (.cml v j es cs))) := by
      match xs, h4 with
      | [l], h4 =>
        simp only [Bool.and_eq_true, List.isEmpty_iff] at h4
        obtain ⟨rfl, hA⟩ := h4
        exact se_cml (xs := []) (es := []) K hh hm h1 h2 h3 hA (by simp [chkEs]) (by simp) (fun e y q => by cases q)
      | [a, l], h4 =>
        simp only [Bool.and_eq_true] at h4
        obtain ⟨h5, hA⟩ := h4
        have hs := sEs es h5 K
        exact se_cml (xs := [a]) K hh hm h1 h2 h3 hA h5 (by simp) (fun e y q1 q2 => by
          subst q1
          cases q2
          cases hs with | cons g1 g2 => exact g1.1)
      | [], h4 => cases h4
      | _ :: _ :: _ :: _, h4 => cases h4
    exact .of ⟨this, mkT this fun _ => rfl⟩ (by intros; simp)
  | .mml c o m v j cs, X, sc, Wx, e, h, K => by
    cases e <;> try (simp only [chkE, Bool.false_eq_true] at h; done)
    rename_i fn xs kw pos
    cases fn <;> try (simp only [chkE, Bool.false_eq_true] at h; done)
    rename_i y g ap
    cases kw with
    | cons _ _ => match xs with
      | [] => simp [chkE] at h
      | [l] => simp [chkE] at h
      | _ :: _ :: _ => simp [chkE] at h
    | nil =>
      match xs with
      | [] => simp [chkE] at h
      | _ :: _ :: _ => simp [chkE] at h
      | [l] =>
        simp only [chkE, Bool.and_eq_true, Bool.not_eq_true', decide_eq_true_eq] at h
        obtain ⟨hh, ⟨⟨⟨⟨⟨hm, h1⟩, rfl⟩, h2⟩, h3⟩, h4⟩, hA⟩ := h
        have := se_mml (m := m) K hh hm h4 hA (sE o h1 K).1 h2 h3
        exact .of ⟨this, mkT this fun _ => rfl⟩ (by intros; simp)
  | .cvl i es, X, sc, Wx, e, h, K => by
    cases e <;> try (simp only [chkE, Bool.false_eq_true] at h; done)
    rename_i fn xs kw pos
    cases fn <;> try (simp only [chkE, Bool.false_eq_true] at h; done)
    cases kw <;> simp only [chkE, Bool.false_eq_true, Bool.and_eq_true, Bool.not_eq_true', decide_eq_true_eq] at h
    obtain ⟨hh, ⟨⟨⟨h1, h2⟩, h3⟩, h4⟩, h5⟩ := h
    have := K.lmr i _ es xs (by assumption) pos hh h1 (isC_ok h2) (K.vis _ h3) h4 h5 (pa_of (sEs es h5 K))
    exact .of ⟨this, mkT this fun _ => rfl⟩ (by intros; simp)
theorem sEs : ∀ (es : List E) {X : Cx} {sc : Scope} {Wx : WX} {xs : List Expr}, chkEs C es sc xs = true → Cok X M C sc n Wx cf → SL2 M X Wx cf es xs
  | [], X, sc, Wx, [], _, _ => .nil
  | e :: es, X, sc, Wx, x :: xs, h, K => by
    simp only [chkEs, Bool.and_eq_true, Bool.not_eq_true'] at h
    exact .cons ⟨(sE e h.1.1 K).1, h.1.2⟩ (sEs es h.2 K)
  | [], X, sc, Wx, _ :: _, h, _ => by simp [chkEs] at h
  | _ :: _, X, sc, Wx, [], h, _ => by simp [chkEs] at h
end
end
end Rf
end

section
set_option maxHeartbeats 2000000
namespace Rf
open PySem PySem.Spec PyProof.Rows L2

/-! ## try with several clauses, with names and without -/
abbrev Cls1 : Type := Value × Option Nat × (Addr → Value → Option Addr → TS)
def endsO (o : Option Nat) (D : Ends) : Ends := match o with
  | none => D
  | some i => ⟨fun s G => D.nx (s.set i none) G, D.rt, fun s G => D.bk (s.set i none) G, fun s G => D.ct (s.set i none) G⟩
def slotO (o : Option Nat) (a : Addr) (σ : L2.St) : L2.St := match o with
  | none => σ
  | some i => σ.set i (some (.ref a))
def wMix (K : PySem.W.Frag) (Wo : WX) (D : Ends) : List Cls1 → WX
  | [] => Wo
  | q :: r => fun cl dx σ G => ∃ t, PySem.W.exmOne K cl q.1 = some t ∧ (t = true → ∀ z, G z = none → q.2.2 z cl dx (endsO q.2.1 D) (slotO q.2.1 z σ) G) ∧ (t = false → wMix K Wo D r cl dx σ G)
def nmOk (X : Cx) : Option Str → Option Nat → Prop
  | none, none => True
  | some y, some i => X.N[i]? = some y ∧ X.env.kindOf y = some .local
  | _, _ => False
inductive HdsX (X : Cx) : List ExceptHandler → List Cls1 → Prop
  | nil : HdsX X [] []
  | cons {x : Str} {c : Value} {ts : Addr → Value → Option Addr → TS} {o : Option Nat} {y : Option Str} {st : Stmt} {sts : List Stmt} {p1 p2 : Pos} {hs : List ExceptHandler} {l : List Cls1} (h1 : Names X x c) (h2 : nmOk X y o)
      (h3 : ∀ (z : Addr) (oz : Obj) (cl : Value) (dx : Option Addr) (ps : List (Addr × Obj)), Zc cl dx oz → (∃ vs, oz.data = .fields vs) → PSs (X.suite z ((z, oz) :: ps)) (st :: sts) (ts z cl dx)) (h4 : HdsX X hs l) :
      HdsX X (.ExceptHandler (some (.Name x p1)) y (st :: sts) p2 :: hs) ((c, o, ts) :: l)
section
variable {X : Cx} {body : List Stmt} {e₀ : ExceptHandler} {es : List ExceptHandler} {l : List Cls1} {pos : Pos} {tb : WX → TS} {Wo : WX}
theorem try_mix (hs : X.stack = X.env :: X.outer) (hf : X.env.frame = some X.env.locals) (nd : X.N.Nodup) (tk : Takes X Wo)
    (hb : ∀ (W : WX) (ps : List (Addr × Obj)) (xe : Value → Shared → Prop), Takes (X.tr ps xe) W → PassesOwn (model X.prog X.w) X.A X.env xe → PSs (X.tr ps xe) body (tb W))
    (hh : HdsX X (e₀ :: es) l) : PS X (.Try body (e₀ :: es) [] [] pos) (fun D σ G => tb (wMix X.K Wo D l) D σ G) := by
  refine ⟨fun pins s₀ σ₀ G₀ D I₀ q₀ => ?_⟩
  have ok := I₀.ok
  have fr : X.A.frames = some (X.env :: X.outer) := ok.frames.trans (congrArg some hs)
  refine wpAny_Try_except ?_
  refine wpAny_mono ((hb (wMix X.K Wo D l) (X.pn ++ pins) (fun e t1 => wpAny (model X.prog X.w) X.A (noteFrame e X.env) (fun _ t2 => wpAny (model X.prog X.w) X.A (setFlight e none) (fun _ t3 =>
    wpAny (model X.prog X.w) X.A (handleBy e X.env (e₀ :: es)) (SP X pins D) X.xe t3) X.xe t2) X.xe t1) (fun u t xx => ?_) PassesOwn.looking).run [] s₀ σ₀ G₀ D (I₀.toTry _) q₀) (fun f t1 w1 => ?_) (fun e t1 w1 => w1)
  · obtain ⟨z, B, sI, ps', σ, G, cl, dx, rfl, J1, nb, up, sky, nz, eo, ag, w⟩ := xx
    have J : Inv X pins σ G sI := J1.ofTry ok
    rw [show (X.tr (X.pn ++ pins) _).stack = X.env :: X.outer from hs] at sky
    show wpAny (model X.prog X.w) X.A (noteFrame (.ref z) X.env) _ _ _
    refine Sky.land Zc.steady fr hf sky fun g3 fl up3 => ?_
    have J3 : Inv X pins σ G { t with heap := g3 } := J.landed nb fl.1 (up.trans up3) eo ag
    obtain ⟨oz, vz, ez, hz, hd⟩ := fl.there
    have far : z ∉ frs (X.env :: X.outer) := fun hm => by
      obtain ⟨_, o', e', hn⟩ := fl.2.2.1.mem hm
      rw [ez] at e'; cases e'
      exact hn _ hd
    have nL : z ≠ X.env.locals := fun q => far (List.mem_filterMap.mpr ⟨X.env, .head _, by rw [hf, q]⟩)
    have nF : z ∉ X.fs := fun hm => by
      obtain ⟨e, me, q⟩ := List.mem_filterMap.mp hm
      exact far (List.mem_filterMap.mpr ⟨e, .tail _ me, q⟩)
    have S3 := J3.suite ez hd nz nL nF
    suffices go : ∀ {es' : List ExceptHandler} {l' : List Cls1}, HdsX X es' l' → wMix X.K Wo D l' cl dx σ G → wpAny (model X.prog X.w) X.A (handleBy (.ref z) X.env es') (SP X pins D) X.xe { t with heap := g3 } from go hh w
    intro es' l' hk
    induction hk with
    | nil =>
      intro w
      refine wpAny_handleBy_nil ?_
      obtain ⟨_, _, _, oe, vs, T, oT, ts', he, _, hd', h1, _⟩ := id fl
      unfold PySem.passOn
      refine wpAny_bind (wpAny_field he hd' h1 ?_)
      rw [if_neg (by simp : ¬ ((Value.ref T == Value.none) = true))]
      have fin : wpAny (model X.prog X.w) X.A (setFlight (.ref z) X.env.frame) (fun _ t4 => wpAny (model X.prog X.w) X.A (throw (.ref z) : Sem Flow) (SP X pins D) X.xe t4) X.xe { t with heap := g3 } := by
        rw [hf]
        refine HandSPX.setFlight_upZ fl fun g4 hg4 up4 => wpAny_throw (tk _ _ ?_)
        exact ⟨z, B, sI, pins, σ, G, cl, dx, rfl, J, nb, (up.trans up3).trans up4, .inr (.inr (hs ▸ hg4)), nz, eo, ag, w⟩
      first
        | exact wpAny_bind (wpAny_pure (wpAny_bind fin))
        | exact wpAny_bind fin
    | @cons x c ts o y st sts p1 p2 hs2 l2 hc hn hsu r ih =>
      intro w
      obtain ⟨t0, ht, yes, no⟩ := w
      refine wpAny_handleBy_cons (codeAny_handlers_test ?_) (by intro q; cases q)
      have LT : PySem.W.Looks (model X.prog X.w) g3 (typeOf (.ref z)) cl := fun _ _ _ _ k q => wpAny_typeOf_ref (k _ _ ez) (hz.1.symm ▸ q)
      have LM := PySem.W.exm_one (M := model X.prog X.w) J3.kIn LT ht
      have look : ∀ {Q : Value → Shared → Prop} {E : Value → Shared → Prop}, Q c { t with heap := g3 } → wpAny (model X.prog X.w) (X.A.mark (some (.ref z))) (eval (.Name x p1) X.env) Q E { t with heap := g3 } := fun {Q E} q => by
        obtain ⟨hg, hdb, hm | ⟨hm, hv, hnn⟩⟩ := hc
        · exact ld_glob (X := X.suite z ((z, oz) :: (X.pn ++ pins))) S3 hg hm q hdb
        · exact ld_blt (X := X.suite z ((z, oz) :: (X.pn ++ pins))) S3 hg hm hv q hnn hdb
      refine look (LM.here ?_)
      cases t0 with
      | false =>
        show wpAny _ X.A (handleBy (.ref z) X.env hs2) _ _ _
        exact ih (no rfl)
      | true =>
        cases o with
        | none =>
          cases y with
          | some _ => exact hn.elim
          | none =>
            refine codeAny_handlers_suite ?_
            refine HandSPX.lands_againZ fl fun g4 fl4 up4 => ?_
            have J4 : Inv X pins σ G { t with heap := g4 } := J.landed nb fl4.1 ((up.trans up3).trans up4) eo ag
            obtain ⟨o4, v4, e4, z4, d4⟩ := fl4.there
            have S4 := J4.suite e4 d4 nz nL nF
            refine wpAny_mono ((hsu z o4 cl dx (X.pn ++ pins) z4 ⟨_, d4⟩).run [] _ _ G _ S4 (yes rfl z nz)) (fun f t6 w6 => ?_) (fun _ _ q => q.elim)
            cases f with
            | ret u =>
              obtain ⟨v6, σ6, G6, S6, r6, q6⟩ := w6
              exact ⟨v6, σ6, G6, S6.unsuite ok, r6, q6⟩
            | _ =>
              obtain ⟨σ6, G6, S6, q6⟩ := w6
              exact ⟨σ6, G6, S6.unsuite ok, q6⟩
        | some i =>
          cases y with
          | none => exact hn.elim
          | some y =>
            obtain ⟨hi, hl⟩ := hn
            refine codeAny_handlers_suite_as ?_
            refine HandSPX.lands_againZ fl fun g4 fl4 up4 => ?_
            have J4 : Inv X pins σ G { t with heap := g4 } := J.landed nb fl4.1 ((up.trans up3).trans up4) eo ag
            obtain ⟨o4, v4, e4, z4, d4⟩ := fl4.there
            have S4 := J4.suite e4 d4 nz nL nF
            refine store_ok (X := X.suite z ((z, o4) :: (X.pn ++ pins))) (v := .ref z) S4 nd hi (.inl hl) rfl (fun t5 S5 => ?_) (.inr hl)
            refine wpAny_mono ((hsu z o4 cl dx (X.pn ++ pins) z4 ⟨_, d4⟩).run [] t5 _ G _ S5 (yes rfl z nz)) (fun f t6 w6 => ?_) (fun _ _ q => q.elim)
            have gone : ∀ {σ6 : L2.St} {G6 : Hp} {Q : Shared → Prop}, Inv (X.suite z ((z, o4) :: (X.pn ++ pins))) [] σ6 G6 t6 → (∀ t7, Inv X pins (σ6.set i none) G6 t7 → Q t7) →
                wpAny (model X.prog X.w) X.A (do bindName X.env y .none; unbindBehindTheSuite X.env y p2) (fun _ t7 => Q t7) X.xe t6 := fun {σ6 G6 Q} S6 hq => gone_ok (S6.unsuite ok) nd hi hl hq
            cases f with
            | ret u =>
              obtain ⟨v6, σ6, G6, S6, r6, q6⟩ := w6
              exact gone S6 fun t7 J7 => ⟨v6, _, G6, J7, r6, q6⟩
            | _ =>
              obtain ⟨σ6, G6, S6, q6⟩ := w6
              exact gone S6 fun t7 J7 => ⟨_, G6, J7, q6⟩
  · cases f with
    | ret u =>
      obtain ⟨v, σ', G', J', r, q⟩ := w1
      exact ⟨v, σ', G', J'.ofTry ok, r, q⟩
    | next =>
      obtain ⟨σ', G', J', q⟩ := w1
      exact wpAny_execs_nil ⟨σ', G', J'.ofTry ok, q⟩
    | _ =>
      obtain ⟨σ', G', J', q⟩ := w1
      exact ⟨σ', G', J'.ofTry ok, q⟩
end
end Rf
end

section
set_option maxHeartbeats 2000000
namespace Rf
open PySem PySem.Spec PyProof.Rows L2

/-! ## the __init__ of an exception -/
def chkI (N : List Str) (sc : Scope) : Nat → List String → List Stmt → Bool
  | _, [], [] => true
  | k, f :: fl, .Assign [.Attribute (.Name x _) g _] (.Name y _) _ :: r => isC N 0 x && visB sc x && okN x && decide (Str.ofString f = g) && isC N (k + 1) y && visB sc y && okN y && chkI N sc (k + 1) fl r
  | _, _, _ => false
theorem chkI_inv {N : List Str} {sc : Scope} {k : Nat} {f : String} {fl : List String} {st : Stmt} {r : List Stmt} (h : chkI N sc k (f :: fl) (st :: r) = true) :
    ∃ x p1 p2 y p3 pos, st = .Assign [.Attribute (.Name x p1) (Str.ofString f) p2] (.Name y p3) pos ∧ isC N 0 x = true ∧ visB sc x = true ∧ okN x = true ∧ isC N (k + 1) y = true ∧ visB sc y = true ∧ okN y = true ∧ chkI N sc (k + 1) fl r = true := by
  unfold chkI at h
  split at h
  · rename_i e1 e2; cases e1
  · rename_i e1 e2
    cases e1
    cases e2
    simp only [Bool.and_eq_true, decide_eq_true_eq] at h
    obtain ⟨⟨⟨⟨⟨⟨⟨h1, h2⟩, h3⟩, rfl⟩, h4⟩, h5⟩, h6⟩, h7⟩ := h
    exact ⟨_, _, _, _, _, _, rfl, h1, h2, h3, h4, h5, h6, h7⟩
  · cases h
section
variable {X : Cx} {Ca : Addr} {sc : Scope}
theorem init_rest (T : OexC X.K Ca) (hv : ∀ x, visB sc x = true → Vis X.env.scope x) : ∀ (fl : List String) (k : Nat) (body : List Stmt), chkI X.N sc k fl body = true → (∀ f ∈ fl, PySem.W.findIn X.K (.ref Ca) (Str.ofString f) = some none) →
    ∃ t, PSs X body t ∧ ∀ (D : Ends) (σ : L2.St) (H : Hp) (a d : Addr) (ws : List V) (done : List (Str × V)), σ[0]? = some (some (.ref a)) → ws.length = fl.length → (∀ (j : Nat) (w : V), ws[j]? = some w → σ[k + 1 + j]? = some (some w)) →
      H a = some (exo a Ca (some d)) → H d = some (exd d done) → done.length + fl.length ≤ 900 → a ≠ d →
      (∀ H2 : Hp, H2 a = some (exo a Ca (some d)) → H2 d = some (exd d (((fl.map Str.ofString).zip ws).reverse ++ done)) → (∀ b, b ≠ a → b ≠ d → H2 b = H b) → D.nx σ H2) → t D σ H
  | [], k, [], _, _ => ⟨_, pss_nil, fun D σ H a d ws done h0 hl hw h1 h2 h3 ne q => q H h1 (by simpa using h2) (fun _ _ _ => rfl)⟩
  | [], k, _ :: _, h, _ => by simp [chkI] at h
  | f :: fl, k, [], h, _ => by simp [chkI] at h
  | f :: fl, k, st :: r, h, hf => by
    · obtain ⟨x, p1, p2, y, p3, pos, rfl, h1, h2, h3, h4, h5, h6, h7⟩ := chkI_inv h
      obtain ⟨t, ht, rt⟩ := init_rest T hv fl (k + 1) r h7 (fun z hz => hf z (List.mem_cons_of_mem _ hz))
      obtain ⟨a1, a2, _⟩ := okN_ok h3
      obtain ⟨b1, b2, _⟩ := okN_ok h6
      refine ⟨_, pss_cons (ps_ost (pe_var (pos := p1) (isC_ok h1) (hv x h2) a1 a2) (pe_var (pos := p3) (isC_ok h4) (hv y h5) b1 b2)) ht, ?_⟩
      intro D σ H a d ws done h0 hl hw ha hd hn ne q
      cases ws with
      | nil => simp at hl
      | cons w ws =>
        refine ⟨w, by simpa using hw 0 w rfl, .ref a, h0, a, Ca, rfl, T, hf f List.mem_cons_self, .inr ⟨d, done, ha, hd, by simp at hn; omega, ?_⟩⟩
        refine rt D σ _ a d ws ((Str.ofString f, w) :: done) h0 (by simpa using hl) (fun j v e => by have := hw (j + 1) v (by simpa using e); rw [show k + 1 + (j + 1) = k + 1 + 1 + j by omega] at this; exact this)
          (by rw [upd_ne ne]; exact ha) upd_same (by simp at hn ⊢; omega) ne fun H2 g1 g2 g3 => q H2 g1 (by rw [g2]; simp) fun b hb hb2 => by rw [g3 b hb hb2, upd_ne hb2]
theorem init_first (T : OexC X.K Ca) (hv : ∀ x, visB sc x = true → Vis X.env.scope x) : ∀ (fl : List String) (body : List Stmt), 0 < fl.length → fl.length ≤ 900 → chkI X.N sc 0 fl body = true → (∀ f ∈ fl, PySem.W.findIn X.K (.ref Ca) (Str.ofString f) = some none) →
    ∃ t, PSs X body t ∧ ∀ (D : Ends) (σ : L2.St) (H : Hp) (a : Addr) (ws : List V), σ[0]? = some (some (.ref a)) → ws.length = fl.length → (∀ (j : Nat) (w : V), ws[j]? = some w → σ[1 + j]? = some (some w)) →
      H a = some (exo a Ca none) →
      (∀ (d : Addr) (H2 : Hp), H d = none → d ≠ a → H2 a = some (exo a Ca (some d)) → H2 d = some (exd d ((fl.map Str.ofString).zip ws).reverse) → (∀ b, b ≠ a → b ≠ d → H2 b = H b) → D.nx σ H2) → t D σ H
  | [], _, h, _, _, _ => by simp at h
  | f :: fl, [], _, _, h, _ => by simp [chkI] at h
  | f :: fl, st :: r, _, hn, h, hf => by
    · obtain ⟨x, p1, p2, y, p3, pos, rfl, h1, h2, h3, h4, h5, h6, h7⟩ := chkI_inv h
      obtain ⟨t, ht, rt⟩ := init_rest T hv fl 1 r h7 (fun z hz => hf z (List.mem_cons_of_mem _ hz))
      obtain ⟨a1, a2, _⟩ := okN_ok h3
      obtain ⟨b1, b2, _⟩ := okN_ok h6
      refine ⟨_, pss_cons (ps_ost (pe_var (pos := p1) (isC_ok h1) (hv x h2) a1 a2) (pe_var (pos := p3) (isC_ok h4) (hv y h5) b1 b2)) ht, ?_⟩
      intro D σ H a ws h0 hl hw ha q
      cases ws with
      | nil => simp at hl
      | cons w ws =>
        refine ⟨w, by simpa using hw 0 w rfl, .ref a, h0, a, Ca, rfl, T, hf f List.mem_cons_self, .inl ⟨ha, fun d hd ne => ?_⟩⟩
        refine rt D σ _ a d ws [(Str.ofString f, w)] h0 (by simpa using hl) (fun j v e => by have := hw (j + 1) v (by simpa using e); rw [show 1 + (j + 1) = 1 + 1 + j by omega] at this; exact this)
          upd_same (by rw [upd_ne ne, upd_same]) (by simp at hn ⊢; omega) (Ne.symm ne) fun H2 g1 g2 g3 => q d H2 hd ne g1 (by rw [g2]; simp) fun b hb hb2 => by rw [g3 b hb hb2, upd_ne hb, upd_ne hb2]
end
theorem init_ok {P : Program} {w : World} {K : PySem.W.Frag} {mg : Str → Option Value} {base : Heap} {x qual : Str} {params : Arguments} {body : List Stmt} {scope : Scope} {fI Ca : Addr} {fd : FuncData} {N ps : List Str} {fl : List String}
    (F : FunD K x qual params body scope [] [] fI fd) (S : FnScope N ps scope) (T : OexC K Ca) (h0 : 0 < fl.length) (h9 : fl.length ≤ 900) (hc : chkI N scope 0 fl body = true) (hl : ps.length = fl.length + 1) (hN : N = ps) (hf : ∀ f ∈ fl, PySem.W.findIn K (.ref Ca) (Str.ofString f) = some none) :
    FnOk P w K mg base CX0 1 fI fd ps (spX Ca fl) := by
  refine F.ok S (fun vs H Q E h => ?_) (fun cdv A outer s H vs Q E hr hsp => ?_)
  · obtain ⟨a, ws, rfl, h1, _⟩ := h
    rw [hl, List.length_cons, h1]
  · obtain ⟨a, ws, rfl, h1, ha, q⟩ := hsp
    obtain ⟨t, ht, rt⟩ := init_first (X := cxOf CX0 P w K mg base N qual scope fI cdv A outer s H E) (sc := scope) T (fun x hx => visB_cases hx) fl body h0 h9 hc hf
    refine ⟨t, ht, rt _ _ H a ws ?_ h1 (fun j v e => ?_) ha fun d H2 hd ne g1 g2 g3 => q d H2 hd ne g1 g2 g3⟩
    · unfold L2.start; simp
    · unfold L2.start
      have hj : j < ws.length := (List.getElem?_eq_some_iff.mp e).1
      rw [List.getElem?_append_left (by simp; omega), List.getElem?_map, show 1 + j = j + 1 by omega, List.getElem?_cons_succ, e]; rfl
end Rf
end

section
namespace Rf
open PySem PySem.Spec PyProof.Rows L2

/-! ## statements -/
def isCompr : Expr → Bool
  | .ListComp _ _ _ _ => true | .SetComp _ _ _ _ => true | .DictComp _ _ _ _ _ => true | _ => false
theorem sw_no {e : Expr} (h : isCompr e = false) (t : Option Expr) (l : Nat) (env : Env) : swapsWith e t l env = pure false := by
  cases e <;> first | rfl | (simp [isCompr] at h)
theorem sw_at {e o i : Expr} {p : Pos} (l : Nat) (env : Env) : swapsWith e (some (.Subscript o i p)) l env = pure false := by
  cases e <;> rfl
theorem sw_fld {e o : Expr} {f : Str} {p : Pos} (l : Nat) (env : Env) : swapsWith e (some (.Attribute o f p)) l env = pure false := by
  cases e <;> rfl
/-- the name's line is not the comprehension's -/
def apartB (p : Pos) (v : Expr) : Bool := !(p.line == v.pos.line)
theorem sw_apart {e : Expr} {y : Str} {p : Pos} (h : apartB p e = true) (l : Nat) (env : Env) : swapsWith e (some (.Name y p)) l env = pure false := by
  unfold apartB at h
  have h' : (p.line == e.pos.line) = false := by simpa using h
  cases e <;> first | rfl | (unfold swapsWith; simp only [h']; simp; rfl) | (unfold swapsWith; simp only [h']; simp)
def isTupE : Expr → Bool
  | .Tuple _ _ _ => true | _ => false
theorem ss_no {tg e : Expr} {env : Env} (h : isTupE e = false) : swappedStores [tg] e env = pure none := by
  cases tg <;> cases e <;> first | rfl | (simp [isTupE] at h)
/-- .. or it is: the name is a local of the def, none of the comprehension's own -/
def hereB (C : Ck) (sc : Scope) (y : Str) (p : Pos) : Expr → Bool
  | .ListComp _ [_] scope pos => !C.hot && kindB sc y .local && (p.line == pos.line) && !(scope.names.any fun (n, k) => n == y && (k == .local || k == .cell))
  | _ => false
/-- the walk's part -/
def walkB (C : Ck) (sc : Scope) (k : Ik) (its : List E) (iter : Expr) : Bool := !isSet iter && (match k with
  | .seq => chkEs C its sc [iter] && decide (its.length = 1)
  | .rng1 => (match iter with | .Call (.Name x _) [a] [] _ => decide (x = Str.ofString "range") && glB sc x && chkEs C its sc [a] | _ => false)
  | .rng2 => (match iter with | .Call (.Name x _) [a, b] [] _ => decide (x = Str.ofString "range") && glB sc x && chkEs C its sc [a, b] | _ => false)
  | _ => false)
def isStr : Expr → Bool
  | .Constant (.str _) _ _ => true | _ => false
mutual
def chkS (C : Ck) (sc : Scope) : S → Stmt → Bool
  | .set i e, .Assign [.Name x p] v _ => isC C.N i x && locB sc x && chkE C e sc v && (!isCompr v || (apartB p v || kindB sc x .cell) || hereB C sc x p v)
  | .setT is e, .Assign [.Tuple es k p] v _ => tgB C sc (.tp is) (.Tuple es k p) && chkE C e sc v && !isTupE v
  | .put o i e, .Assign [.Subscript x y _] v _ => chkE C o sc x && chkE C i sc y && chkE C e sc v
  | .fset o f e, .Assign [.Attribute x g _] v _ => !C.hot && chkE C o sc x && decide (Str.ofString f = g) && chkE C e sc v
  | .aug i o e, .AugAssign (.Name x _) op v _ => isC C.N i x && locB sc x && opB o op && chkE C e sc v
  | .faug a f o e, .AugAssign (.Attribute x g _) op v _ => !C.hot && chkE C a sc x && decide (Str.ofString f = g) && opB o op && chkE C e sc v
  | .expr e, .Expr v _ => chkE C e sc v && !isCompr v
  | .ret e, .Return (some v) _ => chkE C e sc v
  | .retN, .Return none _ => true
  | .ife c a b, .If t x y _ => chkE C c sc t && chkB C sc a x && chkB C sc b y
  | .whl c b, .While t x [] _ => chkE C c sc t && chkB C sc b x
  | .for_ tg k its b, .For tg' iter x [] _ => !C.hot && tgB C sc tg tg' && walkB C sc k its iter && chkB C sc b x
  | .raise c es, .Raise (some (.Call (.Name x _) (y :: xs) [] _)) none _ => !C.hot && decide (c ∈ C.xr) && isC C.cnm c x && glB sc x && okN x && chkEs C es sc (y :: xs)
  | .try_ b hs, .Try x hds [] [] _ => (!C.hot && C.lam.isNone) && chkB C sc b x && !hds.isEmpty && chkH C sc hs hds
  | .brk, .Break _ => true
  | .cnt, .Continue _ => true
  | .pass, .Pass _ => true
  | .pass, .Expr v _ => isStr v
  | .stuck, _ => true
  | _, _ => false
def chkB (C : Ck) (sc : Scope) : List S → List Stmt → Bool
  | [], [] => true
  | s :: ss, st :: sts => chkS C sc s st && chkB C sc ss sts
  | _, _ => false
def chkH (C : Ck) (sc : Scope) : List (Nat × Option Nat × List S) → List ExceptHandler → Bool
  | [], [] => true
  | (k, o, b) :: r, .ExceptHandler (some (.Name x _)) y (st :: sts) _ :: hds => decide (k ∈ C.xc) && isC C.cnm k x && glB sc x && okN x &&
      (match o, y with | none, none => true | some i, some y => isC C.N i y && kindB sc y .local | _, _ => false) && chkB { C with hot := true, exn := o } sc b (st :: sts) && chkH C sc r hds
  | _, _ => false
end

def postS (G : Gx) (Wx : WX) (as : List Addr) (H : Hp) (r : RS) (D : Ends) : Prop := match r with
  | .ok (.nx σI) h => ∀ as' H' σ', Ext as H as' H' → HI G h as' H' → SL G σI as' H' σ' → D.nx σ' H'
  | .ok (.bk σI) h => ∀ as' H' σ', Ext as H as' H' → HI G h as' H' → SL G σI as' H' σ' → D.bk σ' H'
  | .ok (.ct σI) h => ∀ as' H' σ', Ext as H as' H' → HI G h as' H' → SL G σI as' H' σ' → D.ct σ' H'
  | .ok (.rt d) h => ∀ as' H' v, Ext as H as' H' → HI G h as' H' → Rep G as' H' d v → D.rt v H'
  | .exc c fs σI h => ∀ C dx vs as' H' σ', Ext as H as' H' → HI G h as' H' → G.ca c = some C → H' dx = some (.xd vs) → RepF G as' H' fs vs → SL G σI as' H' σ' → Wx (.ref C) (some dx) σ' H'
  | .no => False
def tS (G : Gx) (Wx : WX) (ev : Sg → Hs → RS) : TS := fun D σ H => ∃ σI h as, SL G σI as H σ ∧ HI G h as H ∧ postS G Wx as H (ev σI h) D
section
variable {G : Gx} {Wx : WX} {as as' : List Addr} {H H' : Hp} {σ : L2.St} {r : RS} {Ds : Ends} {α β : Type} {Rl : List Addr → Hp → α → β → Prop}
theorem postS.mono (x : Ext as H as' H') (p : postS G Wx as H r Ds) : postS G Wx as' H' r Ds := by
  match r with
  | .ok (.nx _) h => exact fun _ _ _ e => p _ _ _ (x.trans e)
  | .ok (.bk _) h => exact fun _ _ _ e => p _ _ _ (x.trans e)
  | .ok (.ct _) h => exact fun _ _ _ e => p _ _ _ (x.trans e)
  | .ok (.rt _) h => exact fun _ _ _ e => p _ _ _ (x.trans e)
  | .exc c fs σI h => exact fun _ _ _ _ _ _ e => p _ _ _ _ _ _ (x.trans e)
  | .no => exact p
theorem postS.stm {q : R α} {σI : Sg} {f : α → Hs → RS} (sl : SL G σI as H σ) (p : postS G Wx as H (q.stm σI f) Ds) :
    post G Wx Rl as H σ q fun v H1 => ∃ d h1 as1, q = .ok d h1 ∧ Ext as H as1 H1 ∧ SL G σI as1 H1 σ ∧ HI G h1 as1 H1 ∧ Rl as1 H1 d v ∧ postS G Wx as1 H1 (f d h1) Ds := by
  cases q with
  | ok d h => exact fun v as2 H2 e i r => ⟨d, h, as2, rfl, e, sl.mono e, i, r, p.mono e⟩
  | exc c fs h => exact fun C dx vs as2 H2 e i k1 k2 k3 => p C dx vs as2 H2 σ e i k1 k2 k3 (sl.mono e)
  | no => exact p
theorem stm1 {ev : Sg → Hs → R D} {f : D → Hs → RS} {σI : Sg} {h : Hs} {Ds : Ends} (sl : SL G σI as H σ) (hi : HI G h as H) (p : postS G Wx as H ((ev σI h).stm σI f) Ds) :
    tE G Wx ev σ H fun x H1 => ∃ d h1 as1, ev σI h = .ok d h1 ∧ Ext as H as1 H1 ∧ SL G σI as1 H1 σ ∧ HI G h1 as1 H1 ∧ Rep G as1 H1 d x ∧ postS G Wx as1 H1 (f d h1) Ds :=
  ⟨σI, h, as, sl, hi, p.stm (Rl := Rep G) sl⟩
theorem stmT {ev : Sg → Hs → R D} {f : Bool → Hs → RS} {σI : Sg} {h : Hs} {Ds : Ends} (sl : SL G σI as H σ) (hi : HI G h as H) (p : postS G Wx as H (((ev σI h).bind truthR).stm σI f) Ds) :
    tT G Wx ev σ H fun x H1 => ∃ h1 as1, Ext as H as1 H1 ∧ SL G σI as1 H1 σ ∧ HI G h1 as1 H1 ∧ postS G Wx as1 H1 (f x h1) Ds :=
  ⟨σI, h, as, sl, hi, (p.stm (Rl := rB) sl).imp fun v H1 ⟨d, h1, as1, _, x, s, i, e, q⟩ => ⟨h1, as1, x, s, i, e ▸ q⟩⟩
theorem R.stm_bind {γ : Type} (q : R α) (f : α → Hs → R γ) (σI : Sg) (g : γ → Hs → RS) : (q.stm σI fun x h => (f x h).stm σI g) = (q.bind f).stm σI g := by
  cases q <;> rfl
end
section
variable {X : Cx} {M : Mx} {C : Ck} {sc : Scope} {n : Nat} {Wx : WX} {cf : CF}
theorem ps_imp {st : Stmt} {t t' : TS} (h : PS X st t) (i : ∀ D σ H, t' D σ H → t D σ H) : PS X st t' := ⟨fun pins s σ H D I q => h.run pins s σ H D I (i D σ H q)⟩
theorem pss_imp {st : List Stmt} {t t' : TS} (h : PSs X st t) (i : ∀ D σ H, t' D σ H → t D σ H) : PSs X st t' := ⟨fun pins s σ H D I q => h.run pins s σ H D I (i D σ H q)⟩
theorem walk_ok (K : Cok X M C sc n Wx cf) {k : Ik} {its : List E} {tg' iter : Expr} (h : walkB C sc k its iter = true) : PI X tg' iter (tI X M Wx (evalEs M.W cf M.cx its) k) ∧ isSet iter = false := by
  simp only [walkB, Bool.and_eq_true, Bool.not_eq_true'] at h
  refine ⟨?_, h.1⟩
  obtain ⟨_, h8⟩ := h
  cases k <;> simp only [Bool.false_eq_true, Bool.and_eq_true, decide_eq_true_eq] at h8
  · cases sEs its h8.1 K with
    | cons q1 q2 => cases q2; exact pi_seq K q1.1
  · split at h8
    · rename_i p a pos
      simp only [Bool.and_eq_true, decide_eq_true_eq] at h8
      obtain ⟨⟨rfl, h9⟩, h10⟩ := h8
      have := sEs its h10 K
      exact pi_rng1 K h9 (by cases this with | cons q1 q2 => exact q1.2) (pa_of this)
    · cases h8
  · split at h8
    · rename_i p a b pos
      simp only [Bool.and_eq_true, decide_eq_true_eq] at h8
      obtain ⟨⟨rfl, h9⟩, h10⟩ := h8
      have := sEs its h10 K
      exact pi_rng2 K h9 (by cases this with | cons q1 q2 => exact q1.2) (by cases this with | cons q1 q2 => cases q2 with | cons q3 q4 => exact q3.2) (pa_of this)
    · cases h8
abbrev SS (M : Mx) (X : Cx) (Wx : WX) (L : Nat) (cf : CF) (s : S) (st : Stmt) : Prop := PS X st (tS (M.g X.K) Wx (evalS M.W L cf M.cx s))
abbrev SB (M : Mx) (X : Cx) (Wx : WX) (L : Nat) (cf : CF) (s : List S) (st : List Stmt) : Prop := PSs X st (tS (M.g X.K) Wx (evalB M.W L cf M.cx s))
variable {L : Nat}
theorem ss_set (K : Cok X M C sc n Wx cf) {i : Nat} {e : E} {x : Str} {v : Expr} {p pos : Pos} (h1 : isC C.N i x = true) (h2 : locB sc x = true) (he : SE M X Wx cf e v) (hs : (!isCompr v || (apartB p v || kindB sc x .cell)) = true) : SS M X Wx L cf (.set i e) (.Assign [.Name x p] v pos) := by
  have sw : swapsWith v (some (.Name x p)) pos.line X.env = pure false := by
    cases hv : isCompr v with
    | false => exact sw_no hv _ _ _
    | true =>
      rw [hv, Bool.not_true, Bool.false_or, Bool.or_eq_true] at hs
      rcases hs with hs | hs
      · exact sw_apart hs _ _
      · have ky : X.env.kindOf x = some .cell := K.scn x .cell (by decide) (kindB_ok hs)
        cases v <;> simp only [isCompr, Bool.false_eq_true] at hv
        all_goals
          have q : (some NameKind.cell == some NameKind.local) = false := rfl
          unfold swapsWith
          simp only [ky, q, Bool.and_false, Bool.false_and]
          try rfl
  refine ps_imp (ps_set K.nd (by rw [K.N]; exact isC_ok h1) (K.loc x h2).1 he.1 sw (K.loc x h2).2) ?_
  rintro D σ H ⟨σI, h, as, sl, hi, p⟩
  simp only [evalS] at p
  obtain ⟨q1, q2, q3, sl', hi', p'⟩ := stm1 sl hi p
  refine ⟨q1, q2, q3, sl', hi', p'.imp ?_⟩
  rintro w H1 ⟨d, h1, as1, _, x1, sl1, i1, r1, p1⟩
  exact p1 as1 H1 _ Ext.refl i1 (sl1.set r1)
theorem ss_setT (K : Cok X M C sc n Wx cf) {is : List Nat} {e : E} {es : List Expr} {k : Nat} {v : Expr} {p pos : Pos} (h1 : tgB C sc (.tp is) (.Tuple es k p) = true) (he : SE M X Wx cf e v) (hs : isTupE v = false) : SS M X Wx L cf (.setT is e) (.Assign [.Tuple es k p] v pos) := by
  refine ps_imp (ps_asg he.1 (pg_tg K h1) (by cases v <;> rfl) (ss_no hs) (by rfl)) ?_
  rintro D σ H ⟨σI, h, as, sl, hi, p⟩
  simp only [evalS] at p
  obtain ⟨q1, q2, q3, sl', hi', p'⟩ := stm1 sl hi p
  refine ⟨q1, q2, q3, sl', hi', p'.imp ?_⟩
  rintro w H1 ⟨d, h1, as1, _, x1, sl1, i1, r1, p1⟩
  split at p1
  · rename_i σ1 e1
    exact ⟨σI, h1, as1, d, σ1, sl1, i1, r1, e1, fun σ2 s2 _ => p1 as1 H1 σ2 Ext.refl i1 s2⟩
  · exact p1.elim
theorem ss_put (K : Cok X M C sc n Wx cf) {o i e : E} {x y v : Expr} {p pos : Pos} (ho : SE M X Wx cf o x) (hi : SE M X Wx cf i y) (he : SE M X Wx cf e v) : SS M X Wx L cf (.put o i e) (.Assign [.Subscript x y p] v pos) := by
  refine ⟨fun pins s σ H D I h => ?_⟩
  obtain ⟨σI, h, as, sl, hh, p⟩ := h
  simp only [evalS] at p
  refine wpAny_Assign_Subscript (thn (he.1.run pins s σ H _ I (stm1 sl hh p)) fun r s1 ⟨v1, H1, I1, rv, q1⟩ => ?_) (sw_at _ _)
  obtain ⟨d1, h1, as1, _, x1, sl1, i1, r1, p1⟩ := q1
  refine thn (ho.1.run pins s1 σ H1 _ I1 (stm1 sl1 i1 p1)) fun u s2 ⟨v2, H2, I2, ru, q2⟩ => ?_
  obtain ⟨d2, h2, as2, _, x2, sl2, i2, rr2, p2⟩ := q2
  refine thn (hi.1.run pins s2 σ H2 _ I2 (stm1 sl2 i2 p2)) fun w s3 ⟨v3, H3, I3, rw', q3⟩ => ?_
  obtain ⟨d3, h3, as3, _, x3, sl3, i3, rr3, p3⟩ := q3
  split at p3
  · rename_i h4 e4
    exact putD_ok K.hu I3 ru rw' rv i3 (rr2.mono x3) rr3 ((r1.mono x2).mono x3) e4 fun H4 s4 x4 i4 I4 => ⟨σ, H4, I4, p3 as3 H4 σ x4 i4 (sl3.mono x4)⟩
  · exact p3.elim
theorem ss_fset (K : Cok X M C sc n Wx cf) (hot : C.hot = false) {o e : E} {f : String} {x v : Expr} {p pos : Pos} (ho : SE M X Wx cf o x) (he : SE M X Wx cf e v) : SS M X Wx L cf (.fset o f e) (.Assign [.Attribute x (Str.ofString f) p] v pos) := by
  refine ps_imp (ps_fld ho.1 he.1 (sw_fld _ _)) ?_
  rintro D σ H ⟨σI, h, as, sl, hh, p⟩
  simp only [evalS] at p
  obtain ⟨q1, q2, q3, sl', hi', p'⟩ := stm1 sl hh p
  refine ⟨q1, q2, q3, sl', hi', p'.imp ?_⟩
  rintro w H1 ⟨d, h1, as1, _, x1, sl1, i1, r1, p1⟩
  obtain ⟨q1, q2, q3, sl', hi', p'⟩ := stm1 sl1 i1 p1
  refine ⟨q1, q2, q3, sl', hi', p'.imp ?_⟩
  rintro w2 H2 ⟨d2, h2, as2, _, x2, sl2, i2, r2, p2⟩
  split at p2
  · rename_i h4 e4
    cases d2 with
    | ob m =>
      simp only [Rep] at r2
      obtain ⟨a, rfl, ea⟩ := r2
      simp only [fsetD] at e4
      split at e4
      · rename_i c fs e5
        split at e4
        · rename_i hc
          cases e4
          obtain ⟨Ca, dx, vs, hca, ob, hrf⟩ := i2.ob m _ a e5 ea
          simp only [Bool.and_eq_true, decide_eq_true_eq] at hc
          unfold hasF at hc
          obtain ⟨hc1, hc2⟩ := hc
          split at hc1
          · rename_i ci eci
            have cl := (K.cool hot).cls c ci eci Ca hca
            have ex := ext_set (o := HO.ins Ca dx (putF (Str.ofString f) w vs)) ea ob (fun _ => by intro z; cases z) (fun _ _ => by intro z; cases z)
            refine ⟨a, Ca, dx, vs, rfl, ob, cl.1, cl.2.1 f (by simpa using hc1), by rw [← hrf.length]; omega, ?_⟩
            refine p2 as2 _ σ ex (i2.set ea ob (fun _ => by intro z; cases z) (fun _ _ => by intro z; cases z) ⟨Ca, dx, _, hca, upd_same, RepF.put ((r1.mono x2).mono ex) (hrf.mono ex)⟩) (sl2.mono ex)
          · cases hc1
        · cases e4
      · cases e4
    | _ => simp [fsetD] at e4
  · exact p2.elim
theorem ss_expr {e : E} {v : Expr} {pos : Pos} (he : SE M X Wx cf e v) (hs : isCompr v = false) : SS M X Wx L cf (.expr e) (.Expr v pos) := by
  refine ps_imp (ps_expr he.1 (sw_no hs _ _ _)) ?_
  rintro D σ H ⟨σI, h, as, sl, hi, p⟩
  simp only [evalS] at p
  obtain ⟨q1, q2, q3, sl', hi', p'⟩ := stm1 sl hi p
  refine ⟨q1, q2, q3, sl', hi', p'.imp ?_⟩
  rintro w H1 ⟨d, h1, as1, _, x1, sl1, i1, r1, p1⟩
  exact p1 as1 H1 σ Ext.refl i1 sl1
theorem ss_ret {e : E} {v : Expr} {pos : Pos} (he : SE M X Wx cf e v) : SS M X Wx L cf (.ret e) (.Return (some v) pos) := by
  refine ps_imp (ps_ret he.1) ?_
  rintro D σ H ⟨σI, h, as, sl, hi, p⟩
  simp only [evalS] at p
  obtain ⟨q1, q2, q3, sl', hi', p'⟩ := stm1 sl hi p
  refine ⟨q1, q2, q3, sl', hi', p'.imp ?_⟩
  rintro w H1 ⟨d, h1, as1, _, x1, sl1, i1, r1, p1⟩
  exact p1 as1 H1 w Ext.refl i1 r1
theorem ss_if {c : E} {a b : List S} {t : Expr} {x y : List Stmt} {pos : Pos} (hc : SE M X Wx cf c t) (ha : SB M X Wx L cf a x) (hb : SB M X Wx L cf b y) : SS M X Wx L cf (.ife c a b) (.If t x y pos) := by
  refine ps_imp (ps_if hc.2 ha hb) ?_
  rintro D σ H ⟨σI, h, as, sl, hi, p⟩
  simp only [evalS] at p
  rw [R.stm_bind] at p
  obtain ⟨q1, q2, q3, sl', hi', p'⟩ := stmT (ev := evalE M.W cf M.cx c) sl hi p
  refine ⟨q1, q2, q3, sl', hi', p'.imp ?_⟩
  rintro w H1 ⟨h1, as1, x1, sl1, i1, p1⟩
  cases w with
  | true => exact ⟨σI, h1, as1, sl1, i1, p1⟩
  | false => exact ⟨σI, h1, as1, sl1, i1, p1⟩
theorem ss_whl (K : Cok X M C sc n Wx cf) {c : E} {b : List S} {t : Expr} {x : List Stmt} {pos : Pos} (hc : SE M X Wx cf c t) (hb : SB M X Wx L cf b x) : SS M X Wx L cf (.whl c b) (.While t x [] pos) := by
  refine ps_imp (ps_while K.pas hc.2 hb) ?_
  rintro D σ H ⟨σI, h, as, sl, hi, p⟩
  simp only [evalS] at p
  refine ⟨fun m σ' H' => ∃ σI h as, SL (M.g X.K) σI as H' σ' ∧ HI (M.g X.K) h as H' ∧ postS (M.g X.K) Wx as H' (whileI (fun σ h => (evalE M.W cf M.cx c σ h).bind fun x h => truthR x h) (evalB M.W L cf M.cx b) m σI h) D, ⟨L, σI, h, as, sl, hi, p⟩, ?_⟩
  rintro m σ' H' ⟨σI, h, as, sl, hi, p⟩
  cases m with
  | zero => exact p.elim
  | succ m =>
    simp only [whileI] at p
    obtain ⟨q1, q2, q3, sl', hi', p'⟩ := stmT (ev := evalE M.W cf M.cx c) sl hi p
    refine ⟨q1, q2, q3, sl', hi', p'.imp ?_⟩
    rintro w H1 ⟨h1, as1, x1, sl1, i1, p1⟩
    cases w with
    | false => exact p1 as1 H1 σ' Ext.refl i1 sl1
    | true =>
      simp only [if_true] at p1 ⊢
      refine ⟨_, fun σ' H' q => ⟨m, Nat.lt_succ_self m, q⟩, σI, h1, as1, sl1, i1, ?_⟩
      match e : evalB M.W L cf M.cx b σI h1 with
      | .ok (.nx σ2) h2 => rw [e] at p1; exact fun as2 H2 σ' x2 i2 s2 => ⟨σ2, h2, as2, s2, i2, p1.mono x2⟩
      | .ok (.ct σ2) h2 => rw [e] at p1; exact fun as2 H2 σ' x2 i2 s2 => ⟨σ2, h2, as2, s2, i2, p1.mono x2⟩
      | .ok (.bk σ2) h2 => rw [e] at p1; exact p1
      | .ok (.rt d) h2 => rw [e] at p1; exact p1
      | .exc c fs σ2 h2 => rw [e] at p1; exact p1
      | .no => rw [e] at p1; exact p1
end
end Rf
end

section
namespace Rf
open PySem PySem.Spec PyProof.Rows L2

section
variable {X : Cx} {M : Mx} {C : Ck} {sc : Scope} {n : Nat} {Wx : WX} {cf : CF} {L : Nat}
def unlN (X : Cx) (g : Gd) (N : L2.St → Hp → Prop) : L2.St → Hp → Prop := fun σ H => match g with
  | .lock _ _ _ => ∃ d od u, H d = some (.frz od u) ∧ (∀ o' u', X.H_0 d ≠ some (.frz o' u')) ∧ N σ (upd H d u)
  | _ => N σ H
def unlD (X : Cx) (g : Gd) (Ds : Ends) : Ends := { nx := unlN X g Ds.nx, rt := unlQ X g Ds.rt, bk := Ds.bk, ct := Ds.ct }
theorem SP.unl {pins : List (Addr × Obj)} {g : Gd} {Ds : Ends} {f : Flow} {s : Shared} (h : SP X pins (unlD X g Ds) f s) : SP X pins Ds f s := by
  cases f with
  | next =>
    obtain ⟨σ, H, I, q⟩ := h
    cases g with
    | lock n t kvs =>
      obtain ⟨d, od, w, e, nf, q⟩ := q
      exact ⟨σ, _, I.unlock e nf, q⟩
    | none => exact ⟨σ, H, I, q⟩
    | keep n mo => exact ⟨σ, H, I, q⟩
  | brk => exact h
  | cont => exact h
  | ret u =>
    obtain ⟨v, σ, H, I, r, q⟩ := h
    cases g with
    | lock n t kvs =>
      obtain ⟨d, od, w, e, nf, q⟩ := q
      exact ⟨v, σ, _, I.unlock e nf, r, q⟩
    | none => exact ⟨v, σ, H, I, r, q⟩
    | keep n mo => exact ⟨v, σ, H, I, r, q⟩
theorem un_of {g : Gd} {hc : Hs} {as as1 asc : List Addr} {H H1 Hc : Hp} (ic : HI (M.g X.K) hc asc Hc) (hs : same g hc) (x1 : Ext as H as1 H1) (xc : Ext as1 H1 asc Hc) (gd : GdOk X g as1 H) :
    ∃ Hu, HI (M.g X.K) (endG g hc) asc Hu ∧ Ext as H asc Hu ∧ (∀ b xs, Hc b = some (.tup xs) → Hu b = some (.tup xs)) ∧ (∀ (N : L2.St → Hp → Prop) σ, N σ Hu → unlN X g N σ Hc) ∧ (∀ (Q : VK) v, Q v Hu → unlQ X g Q v Hc) := by
  cases g with
  | none => exact ⟨Hc, ic, x1.trans xc, fun _ _ e => e, fun _ _ q => q, fun _ _ q => q⟩
  | keep n' mo => exact ⟨Hc, ic, x1.trans xc, fun _ _ e => e, fun _ _ q => q, fun _ _ q => q⟩
  | lock n' t kvs =>
    obtain ⟨a, ea, nf0, nf⟩ := gd
    obtain ⟨d, od, u, ed, hf, iu⟩ := ic.unlock hs
    obtain rfl : a = d := by
      have := xc.pre _ _ ea
      rw [ed] at this; exact (Option.some.inj this).symm
    exact ⟨_, iu, (x1.trans xc).unlock (List.mem_of_getElem? ed) hf nf, fun b xs e => tup_upd (fun ys q => by rw [hf] at q; cases q) e, fun N σ q => ⟨a, od, u, hf, nf0, q⟩, fun Q v q => ⟨a, od, u, hf, nf0, q⟩⟩
theorem SL.mono0 {G : Gx} {σI : Sg} {as : List Addr} {H H' : Hp} {σ : L2.St} (s : SL G σI as H σ) (ht : ∀ b xs, H b = some (.tup xs) → H' b = some (.tup xs)) : SL G σI as H' σ :=
  ⟨s.len, fun i d e => by obtain ⟨v, e1, r⟩ := s.at_ i d e; exact ⟨v, e1, r.mono0 (fun _ _ h => h) ht⟩, s.ex⟩
theorem ss_for (K : Cok X M C sc n Wx cf) (hot : C.hot = false) {tg : Tg} {k : Ik} {its : List E} {b : List S} {tg' iter : Expr} {x : List Stmt} {pos : Pos} (htg : tgB C sc tg tg' = true) (hw : walkB C sc k its iter = true) (hb : SB M X Wx L cf b x) :
    SS M X Wx L cf (.for_ tg k its b) (.For tg' iter x [] pos) := by
  refine ⟨fun pins s σ H Ds I h => ?_⟩
  obtain ⟨σI, h, as, sl, hi, p⟩ := h
  simp only [evalS] at p
  rw [R.stm_bind] at p
  obtain ⟨hpi, hset⟩ := walk_ok (tg' := tg') K hw
  have hfold : ∀ x, foldedSetIterable iter X.env x = pure x := by
    intro x
    cases iter <;> first | rfl | (simp [isSet] at hset)
  have rule := ps_for (pos := pos) K.pas (K.cool hot).calm hpi (pg_tg K htg) hb hfold
  cases e0 : ((evalEs M.W cf M.cx its σI h).bind fun xs h => ofO (itemsI M.W.cons k xs h) h) with
  | no => rw [e0] at p; exact p.elim
  | exc c fs h1 =>
    rw [e0] at p
    refine rule.run pins s σ H Ds I ⟨σI, h, as, sl, hi, ?_⟩
    rw [e0]
    exact fun Cc dx vs as' H' x i k1 k2 k3 => p Cc dx vs as' H' σ x i k1 k2 k3 (sl.mono x)
  | ok ig h0 =>
    rw [e0] at p
    obtain ⟨items, g, hg⟩ := ig
    simp only [R.stm_ok] at p
    refine thn (rule.run pins s σ H (unlD X g Ds) I ⟨σI, h, as, sl, hi, ?_⟩) fun f s' q => SP.unl q
    rw [e0]
    rintro J as1 H1 x1 ⟨i1, w1⟩ gd
    simp only at i1 w1 gd
    generalize hturn : (fun (d : D) (σ : Sg) (h : Hs) => match bindT tg d σ with | some σ => evalB M.W L cf M.cx b σ h | none => RS.no) = turn at p
    refine ⟨fun i m σ' Hc => m = items.length - i ∧ i ≤ items.length ∧ ∃ σc hc asc, Ext as1 H1 asc Hc ∧ HI (M.g X.K) hc asc Hc ∧ SL (M.g X.K) σc asc Hc σ' ∧ postS (M.g X.K) Wx as H (forI g turn (items.drop i) σc hc) Ds,
      ⟨items.length, by simp, Nat.zero_le _, σI, hg, as1, Ext.refl, i1, sl.mono x1, p⟩, ?_⟩
    rintro i m σ' Hc ⟨rfl, hile, σc, hc, asc, xc, ic, slc, pc⟩
    by_cases hlt : i < items.length
    · have hdrop : items.drop i = items[i] :: items.drop (i + 1) := List.drop_eq_getElem_cons hlt
      rw [hdrop] at pc
      simp only [forI] at pc
      by_cases hs : same g hc
      · rw [if_pos hs] at pc
        obtain ⟨go, yl⟩ := (w1 i hc asc Hc xc ic hs).2 items[i] (by simp [hlt])
        refine .inr ⟨go, fun σ4 H4 => items.length - (i + 1) = items.length - (i + 1) ∧ i + 1 ≤ items.length ∧ ∃ σc hc asc, Ext as1 H1 asc H4 ∧ HI (M.g X.K) hc asc H4 ∧ SL (M.g X.K) σc asc H4 σ4 ∧ postS (M.g X.K) Wx as H (forI g turn (items.drop (i + 1)) σc hc) Ds,
          fun σ4 H4 q => ⟨items.length - (i + 1), by omega, q⟩, fun y H' yy => ?_⟩
        obtain ⟨as', x', i', rx⟩ := yl y H' yy
        have et : turn items[i] σc hc = match bindT tg items[i] σc with | some σ => evalB M.W L cf M.cx b σ hc | none => RS.no := by rw [← hturn]
        cases eb : bindT tg items[i] σc with
        | none => rw [et, eb] at pc; exact pc.elim
        | some σ1 =>
          refine ⟨σc, hc, as', items[i], σ1, slc.mono x', i', rx, eb, fun σ2 sl2 _ => ⟨σ1, hc, as', sl2, i', ?_⟩⟩
          rw [eb] at et
          simp only at et
          rw [et] at pc
          match e : evalB M.W L cf M.cx b σ1 hc with
          | .ok (.nx σ3) h3 =>
            rw [e] at pc
            exact fun as3 H3 σ4 x3 i3 s3 => ⟨rfl, by omega, σ3, h3, as3, xc.trans (x'.trans x3), i3, s3, pc⟩
          | .ok (.ct σ3) h3 =>
            rw [e] at pc
            exact fun as3 H3 σ4 x3 i3 s3 => ⟨rfl, by omega, σ3, h3, as3, xc.trans (x'.trans x3), i3, s3, pc⟩
          | .ok (.bk σ3) h3 =>
            rw [e] at pc
            intro as3 H3 σ4 x3 i3 s3
            simp only at pc
            by_cases hs3 : same g h3
            · rw [if_pos hs3] at pc
              obtain ⟨Hu, iu, xu, ht, hn, _⟩ := un_of i3 hs3 x1 (xc.trans (x'.trans x3)) gd
              exact hn _ _ (pc as3 Hu σ4 xu iu (s3.mono0 ht))
            · rw [if_neg hs3] at pc; exact pc.elim
          | .ok (.rt d) h3 =>
            rw [e] at pc
            intro as3 H3 v x3 i3 r3
            simp only at pc
            by_cases hs3 : same g h3
            · rw [if_pos hs3] at pc
              obtain ⟨Hu, iu, xu, ht, _, hq⟩ := un_of i3 hs3 x1 (xc.trans (x'.trans x3)) gd
              exact hq _ _ (pc as3 Hu v xu iu (r3.mono0 (fun _ _ h => h) ht))
            · rw [if_neg hs3] at pc; exact pc.elim
          | .exc c fs σ3 h3 =>
            rw [e] at pc
            exact pc.mono (x1.trans (xc.trans x'))
          | .no => rw [e] at pc; exact pc.elim
      · rw [if_neg hs] at pc; exact pc.elim
    · have hie : i = items.length := by omega
      subst hie
      rw [List.drop_length] at pc
      simp only [forI] at pc
      by_cases hs : same g hc
      · rw [if_pos hs] at pc
        refine .inl ⟨(w1 _ hc asc Hc xc ic hs).1 (Nat.le_refl _), ?_⟩
        obtain ⟨Hu, iu, xu, ht, hn, _⟩ := un_of ic hs x1 xc gd
        exact hn _ _ (pc asc Hu σ' xu iu (slc.mono0 ht))
      · rw [if_neg hs] at pc; exact pc.elim
def rAug (M : Mx) (K : PySem.W.Frag) (Wx : WX) (σ : L2.St) (o : Op) : V → V → Hp → VK → Prop := fun x y H Q => ∃ dx dy h as, HI (M.g K) h as H ∧ Rep (M.g K) as H dx x ∧ Rep (M.g K) as H dy y ∧ post (M.g K) Wx (Rep (M.g K)) as H σ (augD o dx dy h) Q
theorem aug_ok {o : Op} {op : Operator} (ho : opB o op = true) (σ : L2.St) : PIp X op (rAug M X.K Wx σ o) := by
  rintro pins s σ' H x y v u Q I rx ry ⟨dx, dy, h, as, hi, r1, r2, p⟩
  unfold augD at p
  split at p
  · simp only [Rep] at r1 r2
    subst r1 r2
    cases op <;> simp only [opB, Bool.false_eq_true] at ho
    exact ip_add pins s σ' H _ _ v u Q I rx ry ⟨_, _, rfl, rfl, p _ as H Ext.refl hi (by simp only [Rep])⟩
  · simp only [Rep] at r1 r2
    subst r1 r2
    cases op <;> simp only [opB, Bool.false_eq_true] at ho
    exact ip_sub pins s σ' H _ _ v u Q I rx ry ⟨_, _, rfl, rfl, p _ as H Ext.refl hi (by simp only [Rep])⟩
  · rename_i z z'
    simp only [Rep] at r1 r2
    subst r1 r2
    cases op <;> simp only [opB, Bool.false_eq_true] at ho
    split at p
    · rename_i hz
      refine in_addS pins s σ' H _ _ v u Q I rx ry ⟨_, _, rfl, rfl, by simpa [st, Str.length] using hz, ?_⟩
      refine p _ as H Ext.refl hi ?_
      simp only [Rep]
      show V.str ⟨(st z).cps ++ (st z').cps⟩ = _
      simp [st]
    · exact p.elim
  · exact p.elim
theorem ss_aug (K : Cok X M C sc n Wx cf) {i : Nat} {o : Op} {e : E} {x : Str} {op : Operator} {v : Expr} {p pos : Pos} (h1 : isC C.N i x = true) (h2 : locB sc x = true) (h3 : opB o op = true) (he : SE M X Wx cf e v) :
    SS M X Wx L cf (.aug i o e) (.AugAssign (.Name x p) op v pos) := by
  refine ⟨fun pins s σ H Ds I h => ?_⟩
  refine (ps_aug K.nd (by rw [K.N]; exact isC_ok h1) (K.loc x h2).1 he.1 (aug_ok (M := M) (Wx := Wx) h3 σ) (K.loc x h2).2).run pins s σ H Ds I ?_
  obtain ⟨σI, h, as, sl, hi, p⟩ := h
  simp only [evalS] at p
  split at p
  · rename_i d ed
    obtain ⟨w, e1, r⟩ := sl.at_ i d ed
    refine ⟨w, e1, ?_⟩
    obtain ⟨q1, q2, q3, sl', hi', p'⟩ := stm1 sl hi p
    refine ⟨q1, q2, q3, sl', hi', p'.imp ?_⟩
    rintro y H1 ⟨d1, h1, as1, _, x1, sl1, i1, r1, p1⟩
    refine ⟨d, d1, h1, as1, i1, r.mono x1, r1, (p1.stm (Rl := Rep (M.g X.K)) sl1).imp ?_⟩
    rintro z H2 ⟨d2, h2, as2, _, x2, sl2, i2, r2, p2⟩
    exact p2 as2 H2 _ Ext.refl i2 (sl2.set r2)
  · exact p.elim
theorem ss_faug (K : Cok X M C sc n Wx cf) (hot : C.hot = false) {f : String} {o : Op} {a e : E} {op : Operator} {x v : Expr} {p pos : Pos} (h3 : opB o op = true) (ha : SE M X Wx cf a x) (he : SE M X Wx cf e v) :
    SS M X Wx L cf (.faug a f o e) (.AugAssign (.Attribute x (Str.ofString f) p) op v pos) := by
  refine ⟨fun pins s σ H Ds I h => ?_⟩
  refine (ps_fldaug ha.1 he.1 (aug_ok (M := M) (Wx := Wx) h3 σ)).run pins s σ H Ds I ?_
  obtain ⟨σI, h, as, sl, hi, p⟩ := h
  simp only [evalS] at p
  obtain ⟨q1, q2, q3, sl', hi', p'⟩ := stm1 sl hi p
  refine ⟨q1, q2, q3, sl', hi', p'.imp ?_⟩
  rintro y H1 ⟨d1, h1, as1, _, x1, sl1, i1, r1, p1⟩
  cases d1 with
  | ob m =>
    simp only [Rep] at r1
    obtain ⟨ad, rfl, ea⟩ := r1
    simp only [isIns] at p1
    cases em : h1[m]? with
    | none => rw [em] at p1; exact p1.elim
    | some mo =>
      rw [em] at p1
      cases mo with
      | ins c fs =>
        simp only at p1
        split at p1
        · rename_i hf
          split at p1
          · rename_i dy ey
            obtain ⟨Ca, dx, vs, hca, ob, hrf⟩ := i1.ob m _ ad em ea
            have hf' := hf
            unfold hasF at hf'
            split at hf'
            · rename_i ci eci
              have cl := (K.cool hot).cls c ci eci Ca hca
              obtain ⟨vy, evy, rvy⟩ : ∃ vy, vs.lookup (Str.ofString f) = some vy ∧ Rep (M.g X.K) as1 H1 dy vy := by
                rcases hrf.lookup f with ⟨q, _⟩ | ⟨d9, v9, q1, q2, q3⟩
                · rw [ey] at q; cases q
                · rw [ey] at q1; cases q1; exact ⟨v9, q2, q3⟩
              refine ⟨ad, Ca, dx, vs, vy, rfl, ob, cl.1, cl.2.1 f (by simpa using hf'), evy, ?_⟩
              obtain ⟨q1, q2, q3, sl', hi', p'⟩ := stm1 sl1 i1 p1
              refine ⟨q1, q2, q3, sl', hi', p'.imp ?_⟩
              rintro y2 H2 ⟨d2, h2, as2, _, x2, sl2, i2, r2, p2⟩
              refine ⟨dy, d2, h2, as2, i2, rvy.mono x2, r2, (p2.stm (Rl := Rep (M.g X.K)) sl2).imp ?_⟩
              rintro z H3 ⟨d3, h3, as3, _, x3, sl3, i3, r3, p3⟩
              have ea3 := x3.pre _ _ (x2.pre _ _ ea)
              cases em3 : h3[m]? with
              | none => rw [em3] at p3; exact p3.elim
              | some mo3 =>
                rw [em3] at p3
                cases mo3 with
                | ins c' fs' =>
                  simp only [fsetD, em3] at p3
                  split at p3
                  · rename_i q5 q6 q7 q8
                    split at p3
                    · rename_i hcc
                      simp only [Option.some.injEq, Prod.mk.injEq] at q7
                      obtain ⟨rfl, rfl⟩ := q7
                      subst hcc
                      split at q8
                      · rename_i hl
                        cases q8
                        obtain ⟨Ca', dx', vs', hca', ob', hrf'⟩ := i3.ob m _ ad em3 ea3
                        have : Ca' = Ca := by
                          rw [hca] at hca'; exact (Option.some.inj hca').symm
                        subst this
                        simp only [Bool.and_eq_true, decide_eq_true_eq] at hl
                        refine ⟨dx', vs', ob', by rw [← hrf'.length]; omega, ?_⟩
                        have ex := ext_set (o := HO.ins Ca' dx' (putF (Str.ofString f) z vs')) ea3 ob' (fun _ => by intro z; cases z) (fun _ _ => by intro z; cases z)
                        exact p3 as3 _ σ ex (i3.set ea3 ob' (fun _ => by intro z; cases z) (fun _ _ => by intro z; cases z) ⟨Ca', dx', _, hca', upd_same, RepF.put (r3.mono ex) (hrf'.mono ex)⟩) (sl3.mono ex)
                      · cases q8
                    · exact p3.elim
                  · exact p3.elim
                | _ => exact p3.elim
            · cases hf'
          · exact p1.elim
        · exact p1.elim
      | _ => exact p1.elim
  | _ => exact p1.elim
end
end Rf
end

section
set_option maxHeartbeats 2000000
namespace Rf
open PySem PySem.Spec PyProof.Rows L2

/-! ## raise -/
theorem repF_zip {G : Gx} {as : List Addr} {H : Hp} : ∀ {fl : List String} {ds : List D} {vs : List V}, Reps G as H ds vs → RepF G as H (fl.zip ds) ((fl.map Str.ofString).zip vs)
  | [], _, _, _ => by simp; exact .nil
  | f :: fl, [], _, h => by simp only [Reps] at h; subst h; simp; exact .nil
  | f :: fl, d :: ds, _, h => by
    obtain ⟨v, vs, rfl, h1, h2⟩ := h.cons_inv
    simp only [List.zip_cons_cons, List.map_cons]
    exact .cons ⟨rfl, h1⟩ (repF_zip h2)
theorem paired_app {α β : Type} {R : α → β → Prop} : ∀ {a : List α} {b : List β} {c : List α} {d : List β}, Paired R a b → Paired R c d → Paired R (a ++ c) (b ++ d)
  | _, _, _, _, .nil, k => k
  | _, _, _, _, .cons h t, k => .cons h (paired_app t k)
theorem paired_rev {α β : Type} {R : α → β → Prop} : ∀ {a : List α} {b : List β}, Paired R a b → Paired R a.reverse b.reverse
  | _, _, .nil => .nil
  | _, _, .cons h t => by
    rw [List.reverse_cons, List.reverse_cons]
    exact paired_app (paired_rev t) (.cons h .nil)
section
variable {X : Cx} {M : Mx} {C : Ck} {sc : Scope} {n : Nat} {Wx : WX} {cf : CF} {L : Nat}
theorem postS.stms {G : Gx} {as : List Addr} {H : Hp} {σ : L2.St} {Ds : Ends} {ev : Sg → Hs → R (List D)} {f : List D → Hs → RS} {σI : Sg} {h : Hs} (sl : SL G σI as H σ) (hi : HI G h as H) (p : postS G Wx as H ((ev σI h).stm σI f) Ds) :
    tEs G Wx ev σ H fun x H1 => ∃ d h1 as1, ev σI h = .ok d h1 ∧ Ext as H as1 H1 ∧ SL G σI as1 H1 σ ∧ HI G h1 as1 H1 ∧ Reps G as1 H1 d x ∧ postS G Wx as1 H1 (f d h1) Ds :=
  ⟨σI, h, as, sl, hi, p.stm (Rl := Reps G) sl⟩
theorem ss_raise (K : Cok X M C sc n Wx cf) (hot : C.hot = false) {c : Nat} {es : List E} {x : Str} {y : Expr} {xs : List Expr} {p pos pos2 : Pos} (h0 : c ∈ C.xr) (h1 : isC C.cnm c x = true) (h2 : glB sc x = true) (h3 : okN x = true) (hx : chkEs C es sc (y :: xs) = true) (hes : SL2 M X Wx cf es (y :: xs)) :
    SS M X Wx L cf (.raise c es) (.Raise (some (.Call (.Name x p) (y :: xs) [] pos)) none pos2) := by
  obtain ⟨Ca, fI, fd, ps, e1, m1, T, iC, tI, F1, hb⟩ := (K.cool hot).exs c x h0 (isC_ok h1)
  have st : isStar y = false ∧ ∃ e es', es = e :: es' ∧ chkEs C es' sc xs = true := by
    cases es with
    | nil => simp [chkEs] at hx
    | cons e es' => simp only [chkEs, Bool.and_eq_true, Bool.not_eq_true'] at hx; exact ⟨hx.1.2, e, es', rfl, hx.2⟩
  obtain ⟨s1, e, es', rfl, s2⟩ := st
  refine ps_imp (ps_raise (K.cool hot).calm K.tk (pmk_oex (X := X) (dvs := []) (ds := []) T iC tI F1 ((K.cool hot).room.mono (by omega)) hb .nil pass0 (K.gl x h2) m1 (pa_of hes) (okN_ok h3).1 (star_one s1 _ _) (chkEs_star s2))) ?_
  rintro D σ H ⟨σI, h, as, sl, hi, p⟩
  simp only [evalS] at p
  obtain ⟨q1, q2, q3, sl', hi', p'⟩ := postS.stms sl hi p
  refine ⟨q1, q2, q3, sl', hi', p'.imp ?_⟩
  rintro vs H1 ⟨ds, h1', as1, _, x1, sl1, i1, r1, p1⟩
  split at p1
  · rename_i hc
    refine ⟨by rw [← r1.length]; omega, fun a ha => ⟨a, vs, by rw [List.append_nil], by rw [← r1.length]; exact hc.2.1, upd_same, fun d H2 hd ne g1 g2 g3 => ⟨rfl, d, _, g1, g2, ?_, ?_⟩⟩⟩
    · rw [upd_ne ne] at hd; exact hd
    · have hd' : H1 d = none := by rw [upd_ne ne] at hd; exact hd
      have eH : upd (del H2 a) d (.xd ((M.W.exf c).map Str.ofString |>.zip vs).reverse) = upd H1 d (.xd ((M.W.exf c).map Str.ofString |>.zip vs).reverse) := by
        funext b
        by_cases hb : b = d
        · rw [hb, upd_same, upd_same]
        · rw [upd_ne hb, upd_ne hb]
          by_cases hb2 : b = a
          · rw [hb2, del_same, ha]
          · rw [del_ne hb2, g3 b hb2 hb, upd_ne hb2]
      rw [eH]
      refine p1 Ca d _ as1 _ σ (ext_tup hd') (i1.other hd') e1 upd_same ?_ (sl1.mono (ext_tup hd'))
      exact (RepF.mono (ext_tup hd') (paired_rev (repF_zip r1)))
  · exact p1.elim
end
/-! ## name = [..] on one line -/
section
variable {X : Cx} {M : Mx} {C : Ck} {sc : Scope} {n : Nat} {Wx : WX} {cf : CF} {L : Nat}
theorem chkE_lc {e : E} {elt : Expr} {gc : Comprehension} {scope : Scope} {pos : Pos} (h : chkE C e sc (.ListComp elt [gc] scope pos) = true) : (∃ own tg k its cd el, e = .lc own tg k its cd el) ∨ ∃ a, e = .back a := by
  cases e <;> first | (simp [chkE] at h; done) | exact .inl ⟨_, _, _, _, _, _, rfl⟩ | exact .inr ⟨_, rfl⟩
theorem ss_here (K : Cok X M C sc n Wx cf) {i : Nat} {e : E} {y : Str} {v : Expr} {py pos : Pos} (h1 : isC C.N i y = true) (h2 : locB sc y = true) (he : chkE C e sc v = true) (hs : hereB C sc y py v = true) : SS M X Wx L cf (.set i e) (.Assign [.Name y py] v pos) := by
  unfold hereB at hs
  split at hs
  · rename_i elt gc scope lp
    simp only [Bool.and_eq_true, Bool.not_eq_true'] at hs
    obtain ⟨⟨⟨hot, hk⟩, hl⟩, hany⟩ := hs
    rcases chkE_lc he with ⟨own, tg, k, its, cd, el, rfl⟩ | ⟨a, rfl⟩
    · obtain ⟨tg', iter, ifs, asy⟩ := gc
      simp only [chkE, Bool.and_eq_true, Bool.not_eq_true', decide_eq_true_eq, List.all_eq_true] at he
      obtain ⟨⟨⟨⟨⟨⟨⟨⟨⟨⟨_, hnl⟩, rfl⟩, g1⟩, g2⟩, g3⟩, g4⟩, g5⟩, g6⟩, g7⟩, g8⟩ := he
      replace hnl := Option.isNone_iff_eq_none.mp hnl
      have hpi : PI X tg' iter (tI X M Wx (evalEs M.W cf M.cx its) k) := by
        refine (walk_ok (C := C) (sc := sc) (n := n) (tg' := tg') K ?_).1
        unfold walkB
        simp only [g7, Bool.not_false, Bool.true_and]
        exact g8
      have hy : X.env.scope.names.lookup y = some .local := K.scn y .local (by decide) (kindB_ok hk)
      have hfold : ∀ x, foldedSetIterable iter X.env x = pure x := by
        intro x
        cases iter <;> first | rfl | (simp [isSet] at g7)
      have hvs : (ownP C own).map (·.2) = own := by
        unfold ownP; rw [List.map_map]
        exact (List.map_congr_left fun _ _ => rfl).trans (List.map_id _)
      refine ⟨fun pins s σ H D I q => ?_⟩
      obtain ⟨σI, h, as, sl, hi, p⟩ := q
      simp only [evalS] at p
      obtain ⟨q1, q2, q3, sl', hi', p'⟩ := stm1 sl hi p
      have q' : tE (M.g X.K) Wx (evalE M.W cf M.cx (.lc own tg k its cd el)) σ H (fun x H1 => gName i x σ H1 D.nx) := by
        refine ⟨q1, q2, q3, sl', hi', p'.imp ?_⟩
        rintro w H1 ⟨d, h1, as1, _, x1, sl1, i1, r1, p1⟩
        exact p1 as1 H1 _ Ext.refl i1 (sl1.set r1)
      obtain ⟨g, q'⟩ := lc_tr K hot hnl g3 q'
      have rule := ps_setLc (X := X) (i := i) (y := y) (py := py) (elt := elt) (tg := tg') (iter := iter) (ifs := ifs) (scope := scope) (pos := lp) (spos := pos) (g := gT (M.g X.K) tg) (tt := tC (M.g X.K) (fun _ _ _ _ => False) (fun σ h => (evalEs M.W cf M.cx cd σ h).bind cdB)) (te := tE (M.g X.K) (fun _ _ _ _ => False) (evalE M.W cf M.cx el))
        (K.cool hot).calm K.nd (by rw [K.N]; exact isC_ok h1) hy (sw_true I.ok.kind hy hl hany) hpi (blk_ok K g1)
        (fun s H Cc cl fp => pg_tg (K.blk hot hnl s H scope Cc cl fp) g2)
        (fun s H Cc cl fp => by
          have K' := K.blk hot hnl s H scope Cc cl fp
          refine pts_of ?_
          cases sEs cd g4 K' with
          | nil => rfl
          | cons q1 q2 =>
            cases q2 with
            | nil => exact ⟨_, rfl, q1.1⟩
            | cons _ _ => simp at g5)
        (fun s H Cc cl fp => (sE el g6 (K.blk hot hnl s H scope Cc cl fp)).1.1) hfold
      rw [hvs] at rule
      refine thn (rule.run pins s σ H (unlD X g D) I ?_) fun f s' q => SP.unl q
      have e : ∀ x H1, unlQ X g (fun x H1 => gName i x σ H1 D.nx) x H1 = gName i x σ H1 (unlD X g D).nx := by
        intro x H1
        cases g <;> rfl
      have e' : unlQ X g (fun x H1 => gName i x σ H1 D.nx) = fun x H1 => gName i x σ H1 (unlD X g D).nx := by
        funext x H1; exact e x H1
      rw [e'] at q'
      exact q'
    · unfold chkE at he
      simp [backOf] at he
  · cases hs
end
/-! ## an exception at hand -/
mutual
theorem rep_x {G : Gx} {as : List Addr} {H : Hp} {xd : Option (Addr × List (String × D))} {ex : Option (Nat × Addr)} : ∀ {d : D} {v : V}, Rep { G with xd := xd, ex := ex } as H d v ↔ Rep G as H d v
  | .non, _ => Iff.rfl
  | .bl _, _ => Iff.rfl
  | .int _, _ => Iff.rfl
  | .str _, _ => Iff.rfl
  | .tup ds, v => by
    simp only [Rep]
    constructor
    · rintro ⟨a, vs, e, h1, h2⟩; exact ⟨a, vs, e, h1, reps_x.mp h2⟩
    · rintro ⟨a, vs, e, h1, h2⟩; exact ⟨a, vs, e, h1, reps_x.mpr h2⟩
  | .ob _, _ => Iff.rfl
  | .fn _, _ => Iff.rfl
  | .con _, _ => Iff.rfl
theorem reps_x {G : Gx} {as : List Addr} {H : Hp} {xd : Option (Addr × List (String × D))} {ex : Option (Nat × Addr)} : ∀ {ds : List D} {vs : List V}, Reps { G with xd := xd, ex := ex } as H ds vs ↔ Reps G as H ds vs
  | [], _ => Iff.rfl
  | d :: ds, vs => by
    simp only [Reps]
    constructor
    · rintro ⟨v, r, e, h1, h2⟩; exact ⟨v, r, e, rep_x.mp h1, reps_x.mp h2⟩
    · rintro ⟨v, r, e, h1, h2⟩; exact ⟨v, r, e, rep_x.mpr h1, reps_x.mpr h2⟩
end
section
variable {G : Gx} {as : List Addr} {H : Hp} {xd : Option (Addr × List (String × D))} {ex : Option (Nat × Addr)}
theorem repF_x {fs : List (String × D)} {vs : List (Str × V)} : RepF { G with xd := xd, ex := ex } as H fs vs ↔ RepF G as H fs vs :=
  ⟨fun h => Paired.mapP h fun _ _ z => ⟨z.1, rep_x.mp z.2⟩, fun h => Paired.mapP h fun _ _ z => ⟨z.1, rep_x.mpr z.2⟩⟩
theorem obR_x {a : Addr} : ∀ {mo : MO}, ObR { G with xd := xd, ex := ex } as H a mo ↔ ObR G as H a mo
  | .lst xs => ⟨fun ⟨vs, h1, h2⟩ => ⟨vs, h1, reps_x.mp h2⟩, fun ⟨vs, h1, h2⟩ => ⟨vs, h1, reps_x.mpr h2⟩⟩
  | .dic lk false kvs => ⟨fun ⟨vs, h1, h2⟩ => ⟨vs, h1, Paired.mapP h2 fun _ _ z => ⟨z.1, rep_x.mp z.2⟩⟩, fun ⟨vs, h1, h2⟩ => ⟨vs, h1, Paired.mapP h2 fun _ _ z => ⟨z.1, rep_x.mpr z.2⟩⟩⟩
  | .dic lk true kvs => ⟨fun ⟨vs, h1, h2⟩ => ⟨vs, h1, Paired.mapP h2 fun _ _ z => ⟨z.1, rep_x.mp z.2⟩⟩, fun ⟨vs, h1, h2⟩ => ⟨vs, h1, Paired.mapP h2 fun _ _ z => ⟨z.1, rep_x.mpr z.2⟩⟩⟩
  | .ins c fs => ⟨fun ⟨C, dx, vs, h0, h1, h2⟩ => ⟨C, dx, vs, h0, h1, repF_x.mp h2⟩, fun ⟨C, dx, vs, h0, h1, h2⟩ => ⟨C, dx, vs, h0, h1, repF_x.mpr h2⟩⟩
  | .scr ns => Iff.rfl
theorem HI.on {h : Hs} (hi : HI G h as H) (hx : XdR { G with xd := xd, ex := ex } as H) : HI { G with xd := xd, ex := ex } h as H := ⟨hx, hi.tb, hi.len, hi.nd, fun n mo a e1 e2 => obR_x.mpr (hi.ob n mo a e1 e2)⟩
theorem HI.off {h : Hs} (hn : G.xd = none) (hi : HI { G with xd := xd, ex := ex } h as H) : HI G h as H := ⟨⟨fun _ _ q => (by rw [hn] at q; cases q), hi.xd.2⟩, hi.tb, hi.len, hi.nd, fun n mo a e1 e2 => obR_x.mp (hi.ob n mo a e1 e2)⟩
/-- no dict of an exception is one of ours -/
theorem HI.noxd {h : Hs} (hi : HI G h as H) {dx : Addr} {vs : List (Str × V)} (e : H dx = some (.xd vs)) : dx ∉ as := fun hm => by
  obtain ⟨n, hn⟩ := List.getElem?_of_mem hm
  have hl : n < h.length := by rw [← hi.len]; exact (List.getElem?_eq_some_iff.mp hn).1
  have ob := hi.ob n h[n] dx (by simp [hl]) hn
  cases hmo : h[n] with
  | lst xs => rw [hmo] at ob; obtain ⟨_, q, _⟩ := ob; rw [e] at q; cases q
  | dic lk t kvs =>
    rw [hmo] at ob
    have : ∀ {o : HO}, (∀ vs, o ≠ .xd vs) → lkd lk H dx o → False := by
      intro o ho q
      unfold lkd at q
      split at q
      · obtain ⟨od, q⟩ := q; rw [e] at q; cases q
      · rw [e] at q; exact ho _ (Option.some.inj q).symm
    cases t with
    | false => obtain ⟨_, q, _⟩ := ob; exact this (fun _ z => by cases z) q
    | true => obtain ⟨_, q, _⟩ := ob; exact this (fun _ z => by cases z) q
  | ins c fs => rw [hmo] at ob; obtain ⟨_, _, _, _, q, _⟩ := ob; rw [e] at q; cases q
  | scr ns => rw [hmo] at ob; obtain ⟨_, q⟩ := ob; rw [e] at q; cases q
theorem SL.on {σI : Sg} {σ : L2.St} (s : SL G σI as H σ) {o : Option Nat} {z : Addr} (he : ex = o.map fun i => (i, z)) : SL { G with xd := xd, ex := ex } (offI o σI) as H (slotO o z σ) := by
  subst he
  cases o with
  | none => exact ⟨s.len, fun j d e => by obtain ⟨v, a, b⟩ := s.at_ j d e; exact ⟨v, a, rep_x.mpr b⟩, fun j a e => by simp at e⟩
  | some i =>
    refine ⟨by simp [offI, slotO, s.len], fun j d e => ?_, fun j a e q => ?_⟩
    · simp only [offI, slotO] at e ⊢
      by_cases hj : j = i
      · subst hj
        have hl : j < σI.length := by have := (List.getElem?_eq_some_iff.mp e).1; simpa using this
        rw [List.getElem?_set_self hl] at e; cases e
      · rw [List.getElem?_set_ne (Ne.symm hj)] at e ⊢
        obtain ⟨v, a, b⟩ := s.at_ j d e
        exact ⟨v, a, rep_x.mpr b⟩
    · simp only [Option.map_some, Option.some.injEq, Prod.mk.injEq] at e
      obtain ⟨rfl, rfl⟩ := e
      simp only [offI, slotO] at q ⊢
      have hl : i < σI.length := by have := (List.getElem?_eq_some_iff.mp q).1; simpa using this
      rw [List.getElem?_set_self (by rw [← s.len]; exact hl)]
theorem SL.off {σI : Sg} {σ : L2.St} {o : Option Nat} (hn : G.ex = none) (s : SL { G with xd := xd, ex := ex } σI as H σ) : SL G (offI o σI) as H (match o with | none => σ | some i => σ.set i none) := by
  cases o with
  | none => exact ⟨s.len, fun j d e => by obtain ⟨v, a, b⟩ := s.at_ j d e; exact ⟨v, a, rep_x.mp b⟩, fun j a e => by rw [hn] at e; cases e⟩
  | some i =>
    refine ⟨by simp [offI, s.len], fun j d e => ?_, fun j a e q => by rw [hn] at e; cases e⟩
    simp only [offI] at e ⊢
    by_cases hj : j = i
    · subst hj
      have hl : j < σI.length := by have := (List.getElem?_eq_some_iff.mp e).1; simpa using this
      rw [List.getElem?_set_self hl] at e; cases e
    · rw [List.getElem?_set_ne (Ne.symm hj)] at e ⊢
      obtain ⟨v, a, b⟩ := s.at_ j d e
      exact ⟨v, a, rep_x.mp b⟩
/-- out of a clause -/
theorem postS.offs {Wx Wx' : WX} {r : RS} {o : Option Nat} {Ds : Ends} (h1 : G.xd = none) (h2 : G.ex = none) (p : postS G Wx as H (r.offs o) Ds) : postS { G with xd := xd, ex := ex } Wx' as H r (endsO o Ds) := by
  match r with
  | .ok (.nx σ) h => cases o <;> exact fun as' H' σ' x hi sl => p as' H' _ x (hi.off h1) (sl.off h2)
  | .ok (.bk σ) h => cases o <;> exact fun as' H' σ' x hi sl => p as' H' _ x (hi.off h1) (sl.off h2)
  | .ok (.ct σ) h => cases o <;> exact fun as' H' σ' x hi sl => p as' H' _ x (hi.off h1) (sl.off h2)
  | .ok (.rt d) h => cases o <;> exact fun as' H' v x hi rv => p as' H' v x (hi.off h1) (rep_x.mp rv)
  | .exc c fs σ h => exact p.elim
  | .no => exact p.elim
end
def Mx.at (M : Mx) (c : Nat) (fs : List (String × D)) (dx z : Addr) (o : Option Nat) : Mx := { M with cx := some (c, fs), xd := some (dx, fs), ex := o.map fun i => (i, z) }
section
variable {X : Cx} {M : Mx} {C : Ck} {sc : Scope} {n : Nat} {Wx : WX} {cf : CF} {L : Nat}
theorem Cok.suite (K : Cok X M C sc n Wx cf) (hot : C.hot = false) {c : Nat} {fs : List (String × D)} {dx z Ca : Addr} {oz : Obj} {ps : List (Addr × Obj)} (o : Option Nat) (hx : 0 < (M.W.exf c).length) (hc : M.ca c = some Ca)
    (hz : Zc (.ref Ca) (some dx) oz) (hf : ∃ vs, oz.data = .fields vs) : Cok (X.suite z ((z, oz) :: ps)) (M.at c fs dx z o) { C with hot := true, exn := o } sc n (fun _ _ _ _ => False) cf := by
  refine ⟨fun q => (by cases q), ?_, fun _ _ _ _ _ _ q => (by cases q), fun q => (by cases q), K.N, K.nd, K.vis, K.loc, K.gl, K.scn, K.scf, K.hu, K.gd, takes0, PassesOwn.never, ?_, K.scr, K.glb, K.bl, K.gs, K.gi⟩
  · intro i x f p pos _ ho hi hv hn
    simp only at ho
    subst ho
    obtain ⟨a1, a2, _⟩ := okN_ok hn
    obtain ⟨T, hno⟩ := (K.cool hot).exm.xf c Ca hx hc
    by_cases hff : f ∈ M.W.exf c
    · refine pe_imp (pe_xf (X := X) (a := z) (oe := oz) (pn := ps) T (hno f hff) hz hf (pe_var (X := X.suite z ((z, oz) :: ps)) (pos := p) (by rw [show (X.suite z ((z, oz) :: ps)).N = C.N from K.N]; exact hi) hv a1 a2)) ?_
      rintro σ H Q ⟨σI, h, as, sl, hi', q⟩
      simp only [evalE, Mx.at] at q
      cases e : σI[i]? with
      | none => rw [e] at q; exact q.elim
      | some w =>
        rw [e] at q
        cases w with
        | some _ => exact q.elim
        | none =>
          simp only [hff, if_true] at q
          have e1 := sl.ex i z rfl e
          obtain ⟨_, vs, g1, g2⟩ := hi'.xd.1 dx fs rfl
          refine ⟨.ref z, e1, rfl, rfl, dx, vs, ?_⟩
          rcases g2.lookup f with ⟨g3, _⟩ | ⟨d, v, g3, g4, g5⟩
          · rw [g3] at q; exact q.elim
          · rw [g3] at q
            exact ⟨v, rfl, g1, g4, q v as H Ext.refl hi' g5⟩
    · refine ⟨fun pins s σ H Q I q => ?_⟩
      obtain ⟨σI, h, as, sl, hi', q⟩ := q
      simp only [evalE, Mx.at] at q
      cases e : σI[i]? with
      | none => rw [e] at q; exact q.elim
      | some w =>
        rw [e] at q
        cases w with
        | some _ => exact q.elim
        | none => simp only [hff, if_false] at q; exact q.elim
  · intro g ys a e1 e2
    obtain ⟨vs, h1, h2⟩ := K.con g ys a e1 e2
    exact ⟨vs, fun H as => ⟨(h1 H as).1, reps_x.mpr (h1 H as).2⟩, h2⟩
end
end Rf
end

section
set_option maxHeartbeats 2000000
namespace Rf
open PySem PySem.Spec PyProof.Rows L2

def FrOk (X : Cx) : Prop := X.stack = X.env :: X.outer ∧ X.env.frame = some X.env.locals
def hnB (C : Ck) (sc : Scope) (o : Option Nat) (y : Option Str) : Bool := match o, y with | none, none => true | some i, some y => isC C.N i y && kindB sc y .local | _, _ => false
theorem chkH_inv {C : Ck} {sc : Scope} {k : Nat} {o : Option Nat} {b : List S} {r : List (Nat × Option Nat × List S)} {hd : ExceptHandler} {hds : List ExceptHandler} (h : chkH C sc ((k, o, b) :: r) (hd :: hds) = true) :
    ∃ x p y st sts p2, hd = .ExceptHandler (some (.Name x p)) y (st :: sts) p2 ∧ k ∈ C.xc ∧ isC C.cnm k x = true ∧ glB sc x = true ∧ okN x = true ∧ hnB C sc o y = true ∧ chkB { C with hot := true, exn := o } sc b (st :: sts) = true ∧ chkH C sc r hds = true := by
  unfold chkH at h
  split at h <;> first | (cases h; done) | (rename_i e1 e2; cases e1; done) | skip
  rename_i e1 e2
  cases e1; cases e2
  simp only [Bool.and_eq_true, decide_eq_true_eq] at h
  obtain ⟨⟨⟨⟨⟨⟨h1, h2⟩, h3⟩, h4⟩, h5⟩, h6⟩, h7⟩ := h
  exact ⟨_, _, _, _, _, _, rfl, h1, h2, h3, h4, h5, h6, h7⟩
theorem chkS_raise {C : Ck} {sc : Scope} {c : Nat} {es : List E} {st : Stmt} (h : chkS C sc (.raise c es) st = true) :
    ∃ x p y xs pos pos2, st = .Raise (some (.Call (.Name x p) (y :: xs) [] pos)) none pos2 ∧ C.hot = false ∧ c ∈ C.xr ∧ isC C.cnm c x = true ∧ glB sc x = true ∧ okN x = true ∧ chkEs C es sc (y :: xs) = true := by
  unfold chkS at h
  split at h <;> first | (cases h; done) | (rename_i e1; cases e1; done) | skip
  rename_i e1
  cases e1
  simp only [Bool.and_eq_true, decide_eq_true_eq, Bool.not_eq_true'] at h
  obtain ⟨⟨⟨⟨⟨hot, h1⟩, h2⟩, h3⟩, h4⟩, h5⟩ := h
  exact ⟨_, _, _, _, _, _, rfl, hot, h1, h2, h3, h4, h5⟩
theorem chkS_try {C : Ck} {sc : Scope} {b : List S} {hs : List (Nat × Option Nat × List S)} {st : Stmt} (h : chkS C sc (.try_ b hs) st = true) :
    ∃ x hd hds pos, st = .Try x (hd :: hds) [] [] pos ∧ C.hot = false ∧ C.lam = none ∧ chkB C sc b x = true ∧ chkH C sc hs (hd :: hds) = true := by
  unfold chkS at h
  split at h <;> first | (cases h; done) | (rename_i e1; cases e1; done) | skip
  rename_i x hds pos e1
  cases e1
  simp only [Bool.and_eq_true, Bool.not_eq_true', List.isEmpty_eq_false_iff] at h
  obtain ⟨⟨⟨⟨hot, hnl⟩, h1⟩, h2⟩, h3⟩ := h
  replace hnl := Option.isNone_iff_eq_none.mp hnl
  cases hds with
  | nil => exact absurd rfl h2
  | cons hd hds => exact ⟨_, _, _, _, rfl, hot, hnl, h1, h3⟩
section
variable {X : Cx} {M : Mx} {C : Ck} {sc : Scope} {n : Nat} {Wx : WX} {cf : CF} {L : Nat}
theorem tS_next {σ : L2.St} {H : Hp} {Ds : Ends} (h : tS (M.g X.K) Wx (fun σ h => .ok (.nx σ) h) Ds σ H) : tNext Ds σ H := by
  obtain ⟨σI, h, as, sl, hi, p⟩ := h
  exact p as H σ Ext.refl hi sl
/-- a clause's suite -/
def tsOf (M : Mx) (K : PySem.W.Frag) (L : Nat) (cf : CF) (o : Option Nat) (b : List S) : Addr → Value → Option Addr → TS := fun z cl dx D σ G =>
  ∃ c fs d Ca, cl = .ref Ca ∧ dx = some d ∧ M.ca c = some Ca ∧ 0 < (M.W.exf c).length ∧ tS ((M.at c fs d z o).g K) (fun _ _ _ _ => False) (evalB M.W L cf (some (c, fs)) b) D σ G
def lOf (M : Mx) (K : PySem.W.Frag) (L : Nat) (cf : CF) : List (Nat × Option Nat × List S) → List Cls1
  | [] => []
  | (k, o, b) :: r => (.ref ((M.ca k).getD 0), o, tsOf M K L cf o b) :: lOf M K L cf r
theorem mix_of (K : Cok X M C sc n Wx cf) (hot : C.hot = false) (hnl : C.lam = none) {c : Nat} {fs : List (String × D)} {Ca dx : Addr} {vs : List (Str × V)} {D : Ends} (hx : 0 < (M.W.exf c).length) (hc : M.ca c = some Ca) :
    ∀ (hs : List (Nat × Option Nat × List S)) {hds : List ExceptHandler} {σI : Sg} {h : Hs} {as : List Addr} {H : Hp} {σ : L2.St}, chkH C sc hs hds = true → SL (M.g X.K) σI as H σ → HI (M.g X.K) h as H → H dx = some (.xd vs) → RepF (M.g X.K) as H fs vs →
      postS (M.g X.K) Wx as H (evalH M.W L cf c fs hs σI h) D → wMix X.K Wx D (lOf M X.K L cf hs) (.ref Ca) (some dx) σ H
  | [], _, σI, h, as, H, σ, _, sl, hi, e, rf, p => by
    simp only [evalH] at p
    exact p Ca dx vs as H σ Ext.refl hi hc e rf sl
  | (k, o, b) :: r, [], _, _, _, _, _, q, _, _, _, _, _ => by simp [chkH] at q
  | (k, o, b) :: r, hd :: hds, σI, h, as, H, σ, q, sl, hi, e, rf, p => by
    obtain ⟨x, p1, y, st, sts, p2, rfl, hk, ex, _, _, _, _, hr⟩ := chkH_inv q
    replace ex := isC_ok ex
    have k0 := K.cool hot
    obtain ⟨Ka, ek, _⟩ := k0.exm.nm k x hk ex
    have em := k0.exm.exm c k Ca Ka hx hk hc ek
    simp only [evalH] at p
    refine ⟨M.W.isa c k, by simp only [ek, Option.getD_some]; exact em, fun ht z hz => ?_, fun ht => ?_⟩
    · rw [ht, if_pos rfl] at p
      refine ⟨c, fs, dx, Ca, rfl, rfl, hc, hx, offI o σI, h, as, sl.on rfl, hi.on ⟨?_, hi.xd.2⟩, p.offs k0.nxd (k0.nex hnl)⟩
      intro d' fs' eq
      have eq' : some (dx, fs) = some (d', fs') := eq
      cases eq'
      exact ⟨hi.noxd e, vs, e, repF_x.mpr rf⟩
    · rw [ht, if_neg (by simp)] at p
      exact mix_of K hot hnl hx hc r hr sl hi e rf p
theorem kind_loc {y : Str} (K : Cok X M C sc n Wx cf) (h : kindB sc y .local = true) : X.env.kindOf y = some .local := K.scn y .local (by decide) (kindB_ok h)
mutual
theorem sS : ∀ (s : S) {X : Cx} {M : Mx} {C : Ck} {Wx : WX} {st : Stmt}, chkS C sc s st = true → Cok X M C sc n Wx cf → FrOk X → SS M X Wx L cf s st
  | .set i e, X, M, C, Wx, st, h, K, fr => by
    cases st <;> try (simp only [chkS, Bool.false_eq_true] at h; done)
    rename_i ts v pos
    match ts with
    | [] => simp [chkS] at h
    | t :: _ :: _ => cases t <;> simp [chkS] at h
    | [t] =>
      cases t <;> simp only [chkS, Bool.false_eq_true, Bool.and_eq_true] at h
      have h2 := h.2
      rw [Bool.or_eq_true] at h2
      rcases h2 with hb | hb
      · exact ss_set K h.1.1.1 h.1.1.2 (sE e h.1.2 K).1 hb
      · exact ss_here K h.1.1.1 h.1.1.2 h.1.2 hb
  | .setT is e, X, M, C, Wx, st, h, K, fr => by
    cases st <;> try (simp only [chkS, Bool.false_eq_true] at h; done)
    rename_i ts v pos
    match ts with
    | [] => simp [chkS] at h
    | t :: _ :: _ => cases t <;> simp [chkS] at h
    | [t] =>
      cases t <;> simp only [chkS, Bool.false_eq_true, Bool.and_eq_true, Bool.not_eq_true'] at h
      exact ss_setT K h.1.1 (sE e h.1.2 K).1 h.2
  | .put o i e, X, M, C, Wx, st, h, K, fr => by
    cases st <;> try (simp only [chkS, Bool.false_eq_true] at h; done)
    rename_i ts v pos
    match ts with
    | [] => simp [chkS] at h
    | t :: _ :: _ => cases t <;> simp [chkS] at h
    | [t] =>
      cases t <;> simp only [chkS, Bool.false_eq_true, Bool.and_eq_true] at h
      exact ss_put K (sE o h.1.1 K).1 (sE i h.1.2 K).1 (sE e h.2 K).1
  | .fset o f e, X, M, C, Wx, st, h, K, fr => by
    cases st <;> try (simp only [chkS, Bool.false_eq_true] at h; done)
    rename_i ts v pos
    match ts with
    | [] => simp [chkS] at h
    | t :: _ :: _ => cases t <;> simp [chkS] at h
    | [t] =>
      cases t <;> simp only [chkS, Bool.false_eq_true, Bool.and_eq_true, decide_eq_true_eq, Bool.not_eq_true'] at h
      obtain ⟨⟨⟨hot, h1⟩, rfl⟩, h2⟩ := h
      exact ss_fset K hot (sE o h1 K).1 (sE e h2 K).1
  | .aug i o e, X, M, C, Wx, st, h, K, fr => by
    cases st <;> try (simp only [chkS, Bool.false_eq_true] at h; done)
    rename_i t op v pos
    cases t <;> simp only [chkS, Bool.false_eq_true, Bool.and_eq_true] at h
    exact ss_aug K h.1.1.1 h.1.1.2 h.1.2 (sE e h.2 K).1
  | .faug a f o e, X, M, C, Wx, st, h, K, fr => by
    cases st <;> try (simp only [chkS, Bool.false_eq_true] at h; done)
    rename_i t op v pos
    cases t <;> simp only [chkS, Bool.false_eq_true, Bool.and_eq_true, decide_eq_true_eq, Bool.not_eq_true'] at h
    obtain ⟨⟨⟨⟨hot, h1⟩, rfl⟩, h2⟩, h3⟩ := h
    exact ss_faug K hot h2 (sE a h1 K).1 (sE e h3 K).1
  | .expr e, X, M, C, Wx, st, h, K, fr => by
    cases st <;> simp only [chkS, Bool.false_eq_true, Bool.and_eq_true, Bool.not_eq_true'] at h
    exact ss_expr (sE e h.1 K).1 h.2
  | .ret e, X, M, C, Wx, st, h, K, fr => by
    cases st <;> try (simp only [chkS, Bool.false_eq_true] at h; done)
    rename_i v pos
    cases v <;> simp only [chkS, Bool.false_eq_true] at h
    exact ss_ret (sE e h K).1
  | .retN, X, M, C, Wx, st, h, K, fr => by
    cases st <;> try (simp only [chkS, Bool.false_eq_true] at h; done)
    rename_i v pos
    cases v <;> simp only [chkS, Bool.false_eq_true] at h
    refine ps_imp ps_retN ?_
    rintro D σ H ⟨σI, h, as, sl, hi, p⟩
    exact p as H .non Ext.refl hi (by simp only [Rep])
  | .ife c a b, X, M, C, Wx, st, h, K, fr => by
    cases st <;> simp only [chkS, Bool.false_eq_true, Bool.and_eq_true] at h
    exact ss_if (sE c h.1.1 K).1 (sB a h.1.2 K fr) (sB b h.2 K fr)
  | .whl c b, X, M, C, Wx, st, h, K, fr => by
    cases st <;> try (simp only [chkS, Bool.false_eq_true] at h; done)
    rename_i t x els pos
    cases els <;> simp only [chkS, Bool.false_eq_true, Bool.and_eq_true] at h
    exact ss_whl K (sE c h.1 K).1 (sB b h.2 K fr)
  | .for_ tg k its b, X, M, C, Wx, st, h, K, fr => by
    cases st <;> try (simp only [chkS, Bool.false_eq_true] at h; done)
    rename_i t x els bd pos
    cases bd <;> simp only [chkS, Bool.false_eq_true, Bool.and_eq_true, Bool.not_eq_true'] at h
    exact ss_for K h.1.1.1 h.1.1.2 h.1.2 (sB b h.2 K fr)
  | .raise c es, X, M, C, Wx, st, h, K, fr => by
    obtain ⟨x, p, y, xs, pos, pos2, rfl, hot, h1, h2, h3, h4, h5⟩ := chkS_raise h
    exact ss_raise K hot h1 h2 h3 h4 h5 (sEs es h5 K)
  | .try_ b hs, X, M, C, Wx, st, h, K, fr => by
    obtain ⟨x, e₀, es, pos, rfl, hot, hnl, h1, h3⟩ := chkS_try h
    · have hx := sH hs h3 K hot fr
      refine ps_imp (try_mix (tb := fun W => tS (M.g X.K) W (evalB M.W L cf M.cx b)) fr.1 fr.2 K.nd K.tk (fun W ps xe tk pas => ?_) hx) ?_
      · have K' : Cok (X.tr ps xe) M C sc n W cf := by
          have k := K.cool hot
          exact ⟨fun _ => ⟨k.calm, k.room, k.nex, k.nxd, k.ncx, k.vir, k.fns, k.cls, k.mks, k.exs, k.exm⟩, fun _ _ _ _ _ q => (by rw [hot] at q; cases q), fun _ _ _ _ _ _ _ q => (by rw [hnl] at q; cases q), fun h1 h2 => K.lmk h1 h2, K.N, K.nd, K.vis, K.loc, K.gl, K.scn, K.scf, K.hu, K.gd, tk, pas, K.con, K.scr, K.glb, K.bl, K.gs, K.gi⟩
        exact sB b h1 K' fr
      · rintro D σ H ⟨σI, h, as, sl, hi, p⟩
        refine ⟨σI, h, as, sl, hi, ?_⟩
        simp only [evalS] at p
        match e : evalB M.W L cf M.cx b σI h with
        | .ok (.nx σ1) h1 => rw [e] at p; exact p
        | .ok (.bk σ1) h1 => rw [e] at p; exact p
        | .ok (.ct σ1) h1 => rw [e] at p; exact p
        | .ok (.rt d) h1 => rw [e] at p; exact p
        | .no => rw [e] at p; exact p.elim
        | .exc c fs σ1 h1 =>
          rw [e] at p
          simp only at p
          split at p
          · rename_i hx
            exact fun Ca dx vs as' H' σ' x' hi' hc g1 g2 sl' => mix_of K hot hnl hx hc hs h3 sl' hi' g1 g2 (p.mono x')
          · exact p.elim
  | .brk, X, M, C, Wx, st, h, K, fr => by
    cases st <;> simp only [chkS, Bool.false_eq_true] at h
    refine ps_imp ps_break ?_
    rintro D σ H ⟨σI, h, as, sl, hi, p⟩
    exact p as H σ Ext.refl hi sl
  | .cnt, X, M, C, Wx, st, h, K, fr => by
    cases st <;> simp only [chkS, Bool.false_eq_true] at h
    refine ps_imp ps_continue ?_
    rintro D σ H ⟨σI, h, as, sl, hi, p⟩
    exact p as H σ Ext.refl hi sl
  | .stuck, X, M, C, Wx, st, h, K, fr => by
    refine ⟨fun pins s σ H D I q => ?_⟩
    obtain ⟨σI, h, as, sl, hi, p⟩ := q
    exact p.elim
  | .pass, X, M, C, Wx, st, h, K, fr => by
    have e : ∀ Ds σ H, tS (M.g X.K) Wx (evalS M.W L cf M.cx S.pass) Ds σ H → tNext Ds σ H := by
      rintro Ds σ H ⟨σI, h, as, sl, hi, p⟩
      exact p as H σ Ext.refl hi sl
    cases st <;> try (simp only [chkS, Bool.false_eq_true] at h; done)
    · rename_i v pos
      cases v <;> try (simp only [chkS, isStr, Bool.false_eq_true] at h; done)
      rename_i c k p
      cases c <;> simp only [chkS, isStr, Bool.false_eq_true] at h
      exact ps_imp ps_doc e
    · exact ps_imp ps_pass e
theorem sB : ∀ (ss : List S) {X : Cx} {M : Mx} {C : Ck} {Wx : WX} {sts : List Stmt}, chkB C sc ss sts = true → Cok X M C sc n Wx cf → FrOk X → SB M X Wx L cf ss sts
  | [], X, M, C, Wx, [], _, K, fr => by
    refine pss_imp pss_nil ?_
    rintro Ds σ H ⟨σI, h, as, sl, hi, p⟩
    exact p as H σ Ext.refl hi sl
  | s :: ss, X, M, C, Wx, st :: sts, h, K, fr => by
    simp only [chkB, Bool.and_eq_true] at h
    refine pss_imp (pss_cons (sS s h.1 K fr) (sB ss h.2 K fr)) ?_
    rintro Ds σ H ⟨σI, h, as, sl, hi, p⟩
    refine ⟨σI, h, as, sl, hi, ?_⟩
    simp only [evalB] at p
    match e : evalS M.W L cf M.cx s σI h with
    | .ok (.nx σ1) h1 => rw [e] at p; exact fun as' H' σ' x i s' => ⟨σ1, h1, as', s', i, p.mono x⟩
    | .ok (.bk σ1) h1 => rw [e] at p; exact p
    | .ok (.ct σ1) h1 => rw [e] at p; exact p
    | .ok (.rt d) h1 => rw [e] at p; exact p
    | .exc c fs σ1 h1 => rw [e] at p; exact p
    | .no => rw [e] at p; exact p
  | [], X, M, C, Wx, _ :: _, h, _, _ => by simp [chkB] at h
  | _ :: _, X, M, C, Wx, [], h, _, _ => by simp [chkB] at h
theorem sH : ∀ (hs : List (Nat × Option Nat × List S)) {X : Cx} {M : Mx} {C : Ck} {Wx : WX} {hds : List ExceptHandler}, chkH C sc hs hds = true → Cok X M C sc n Wx cf → C.hot = false → FrOk X → HdsX X hds (lOf M X.K L cf hs)
  | [], X, M, C, Wx, [], _, K, hot, fr => .nil
  | [], X, M, C, Wx, _ :: _, h, _, _, _ => by simp [chkH] at h
  | _ :: _, X, M, C, Wx, [], h, _, _, _ => by simp [chkH] at h
  | (k, o, b) :: r, X, M, C, Wx, hd :: hds, h, K, hot, fr => by
    obtain ⟨x, p1, y, st, sts, p2, rfl, h1, h2, h3, h4, h5, h6, h7⟩ := chkH_inv h
    · obtain ⟨Ka, ek, mk⟩ := (K.cool hot).exm.nm k _ h1 (isC_ok h2)
      refine .cons ⟨K.gl _ h3, (okN_ok h4).1, .inl (by rw [ek]; exact mk)⟩ ?_ ?_ (sH r h7 K hot fr)
      · cases o with
        | none => cases y with
          | none => trivial
          | some y => simp [hnB] at h5
        | some i => cases y with
          | none => simp [hnB] at h5
          | some y =>
            simp only [hnB, Bool.and_eq_true] at h5
            exact ⟨by rw [K.N]; exact isC_ok h5.1, kind_loc K h5.2⟩
      · intro z oz cl dx ps hz hf
        refine ⟨fun pins s σ H D I q => ?_⟩
        obtain ⟨c, fs, d, Ca, rfl, rfl, hc, hx, q⟩ := q
        exact (sB b h6 (K.suite hot (ps := ps) o hx hc hz hf) fr).run pins s σ H D I q
end
end
end Rf
end

section
namespace Rf
open PySem PySem.Spec PyProof.Rows L2

/-! ## a def of the text keeps what its term says -/
/-- the def at a, as the text has it -/
structure FnF (K : PySem.W.Frag) (C : Ck) (fi : FI) (a : Addr) where
  x : Str
  qual : Str
  params : Arguments
  body : List Stmt
  scope : Scope
  N : List Str
  ps : List Str
  fd : FuncData
  mkl : Bool
  F : FunD K x qual params body scope [] [] a fd
  S : FnScope N ps scope
  B : Binds K fd ps []
  lm : fi.lm = none
  np : ps.length = fi.np
  ns : N.length = fi.ns
  tb : mkl = true → ∃ p, a = He.fAd K p ∧ (p, qual) ∈ C.tf
  ck : chkB { C with N := N, mkl := mkl } scope fi.body body = true
/-- .. to which a lambda is given behind i other arguments -/
structure FnFV (K : PySem.W.Frag) (C : Ck) (fi : FI) (a : Addr) (i : Nat) where
  x : Str
  qual : Str
  params : Arguments
  body : List Stmt
  scope : Scope
  N : List Str
  ps : List Str
  fd : FuncData
  mkl : Bool
  F : FunD K x qual params body scope [] [] a fd
  S : FnScope N ps scope
  B : Binds K fd ps []
  np : ps.length = i + 1
  ns : N.length = fi.ns
  tb : mkl = true → ∃ p, a = He.fAd K p ∧ (p, qual) ∈ C.tf
  ck : chkB { C with N := N, lam := some i, mkl := mkl } scope fi.body body = true
def VOf (M : Mx) (K : PySem.W.Frag) (C : Ck) (v j : Nat) (a : Addr) : Prop :=
  ∃ fi i, M.W.fns[v]? = some fi ∧ (∀ capN ps, C.lms j = some (capN, ps) → fi.lm = some (i, j, capN.length) ∧ fi.np = i + capN.length) ∧ Nonempty (FnFV K C fi a i)
structure Facts (P : Program) (w : World) (K : PySem.W.Frag) (mg : Str → Option Value) (base : Heap) (M : Mx) (C : Ck) : Prop where
  fn : ∀ f a, M.fa f = some a → PySem.W.keepIn K (.ref a) = true ∧ ∃ fi, M.W.fns[f]? = some fi ∧ Nonempty (FnF K C fi a)
  nm : ∀ f x, C.fnm[f]? = some x → ∃ a, mg x = some (.ref a) ∧ M.fa f = some a
  con : ConOk M K
  scr : ScrOk M K
  glb : ∀ g x, C.gnm[g]? = some x → ∃ a, mg x = some (.ref a) ∧ M.ga g = some a
  cls : ∀ c ci, M.W.cls[c]? = some ci → ∀ Ca, M.ca c = some Ca → Cls K Ca ∧ (∀ f, f ∈ ci.flds → NoAttr K Ca (Str.ofString f)) ∧
    (∀ m f, ci.meths.lookup m = some f → ∃ a fi, Meth K Ca (Str.ofString m) a ∧ M.W.fns[f]? = some fi ∧ Nonempty (FnF K C fi a))
  mks : ∀ c x, c ∈ C.nw → C.cnm[c]? = some x → ∃ ci f Ca a fi, M.W.cls[c]? = some ci ∧ ci.ini = some f ∧ M.ca c = some Ca ∧ mg x = some (.ref Ca) ∧ Mk K Ca a ∧ M.W.fns[f]? = some fi ∧ Nonempty (FnF K C fi a)
  exs : ExcsOk P w K mg base M C
  exm : ExmOk K mg M C
  vfn : ∀ v j x, (v, j, x) ∈ C.vnm → ∃ a, mg x = some (.ref a) ∧ PySem.W.keepIn K (.ref a) = true ∧ VOf M K C v j a
  vmt : ∀ v j c m, (v, j, c, m) ∈ C.vmt → ∃ ci, M.W.cls[c]? = some ci ∧ ∀ Ca, M.ca c = some Ca → ∃ a, Meth K Ca (Str.ofString m) a ∧ VOf M K C v j a
  lam : ∀ j capN ps, C.lms j = some (capN, ps) → ∃ e, M.W.fns[j]? = some ⟨capN.length + ps.length, capN.length + ps.length, [.ret e], none⟩ ∧ ∀ scope body, C.lamB j scope body = true → chkE (C.plain (capN ++ ps)) e scope body = true
  tab : ∀ p q, (p, q) ∈ C.tf → LamX.TabB base mg (He.cT K p).1 (He.cT K p).2 ∧ ((He.cT K p).2, q ++ ".<locals>." ++ "<lambda>") ∈ M.tb ∧ ∀ t ∈ M.tb, t.1 = (He.cT K p).2 → t.2 = q ++ ".<locals>." ++ "<lambda>"
  hot : C.hot = false
  nlm : C.lam = none
  nmk : C.mkl = false
  nex : M.ex = none
  nxd : M.xd = none
  ncx : M.cx = none
  nlc : M.lc = none
  bl : ∀ x ∈ bltNames, mg x = none
  gs : ∀ (g : Nat) (x : Str) (s : List Char), C.snm[g]? = some (x, s) → ∃ t, mg x = some (.str (st s) t)
  gi : ∀ (g : Nat) (x : Str) (i : Int), C.inm[g]? = some (x, i) → ∃ t, mg x = some (.int i t)
/-- what is called below: at callF n -/
def klN : Nat → Nat
  | 0 => 0
  | n + 1 => 2 * n + 1
noncomputable def cflN (W : Wd) (L : Nat) : Nat → CF
  | 0 => fun _ _ _ => .no
  | n + 1 => callF W L n
section
variable {P : Program} {w : World} {K : PySem.W.Frag} {mg : Str → Option Value} {base : Heap} {M : Mx} {C : Ck} {L : Nat}
theorem sl_start {G : Gx} (hx : G.ex = none) {N : List Str} {ds : List D} {vs : List V} {as : List Addr} {H : Hp} (r : Reps G as H ds vs) : SL G (start N.length ds) as H (L2.start N vs) := by
  refine ⟨?_, fun i d e => ?_, fun _ _ q => by rw [hx] at q; cases q⟩
  · unfold start L2.start
    rw [List.length_append, List.length_append, List.length_map, List.length_map, List.length_replicate, List.length_replicate, r.length]
  · unfold start at e
    by_cases hi : i < ds.length
    · rw [List.getElem?_append_left (by simpa using hi), List.getElem?_map] at e
      cases ed : ds[i]? with
      | none => rw [ed] at e; cases e
      | some d' =>
        rw [ed] at e; cases e
        have : ∀ {ds : List D} {vs : List V} {i : Nat}, Reps G as H ds vs → ds[i]? = some d → ∃ v, vs[i]? = some v ∧ Rep G as H d v := by
          intro ds
          induction ds with
          | nil => intro vs i _ e; simp at e
          | cons d0 ds ih =>
            intro vs i r e
            obtain ⟨v, rr, rfl, r1, r2⟩ := r.cons_inv
            cases i with
            | zero => simp at e; subst e; exact ⟨v, rfl, r1⟩
            | succ i => simpa using ih r2 (by simpa using e)
        obtain ⟨v, e1, e2⟩ := this r ed
        have hv : i < vs.length := (List.getElem?_eq_some_iff.mp e1).1
        refine ⟨v, ?_, e2⟩
        unfold L2.start
        rw [List.getElem?_append_left (by simpa using hv), List.getElem?_map, e1]; rfl
    · rw [List.getElem?_append_right (by simpa using hi), List.getElem?_replicate] at e
      split at e <;> cases e
theorem callF_np {W : Wd} {n f : Nat} {ds : List D} {h : Hs} {fi : FI} (e : W.fns[f]? = some fi) (hn : callF W L n f ds h ≠ .no) : ds.length = fi.np := by
  cases n with
  | zero => exact absurd rfl hn
  | succ n =>
    simp only [callF, e] at hn
    by_cases hl : ds.length = fi.np
    · exact hl
    · rw [if_neg hl] at hn; exact absurd rfl hn
theorem Facts.z (Fx : Facts P w K mg base M C) : M.z = M := by
  obtain ⟨W, fa, ca, ga, cx, xd, ex, tb, lc, va⟩ := M
  have h1 := Fx.nex; have h2 := Fx.nxd; have h3 := Fx.ncx; have h4 := Fx.nlc
  simp only at h1 h2 h3 h4
  subst h1 h2 h3 h4
  rfl
theorem vir_cc {n : Nat} {cf : CF} (h : ∃ kl cfl, VirOk P w K mg base M C n cf kl cfl) {N : List Str} {l : Option Nat} {mk : Bool} : ∃ kl cfl, VirOk P w K mg base M { C with N := N, lam := l, mkl := mk } n cf kl cfl := by
  obtain ⟨kl, cfl, v⟩ := h
  exact ⟨kl, cfl, v.fn, v.mt, v.make⟩
structure Low (P : Program) (w : World) (K : PySem.W.Frag) (mg : Str → Option Value) (base : Heap) (M : Mx) (C : Ck) (n : Nat) (cf : CF) : Prop where
  vir : ∃ kl cfl, VirOk P w K mg base M C n cf kl cfl
  fns : FnsOk P w K mg base M C n cf
  cls : ClsOk P w K mg base M C n cf
  mks : MksOk P w K mg base M C n cf
theorem low_of (Fx : Facts P w K mg base M C) {n : Nat} (hA : ∀ (f : Nat) (a : Addr) (fi : FI), M.W.fns[f]? = some fi → FnF K C fi a → FnB P w K mg base M n (callF M.W L n) a f) (hV : VirOk P w K mg base M C n (callF M.W L n) (klN n) (cflN M.W L n)) : Low P w K mg base M C n (callF M.W L n) := by
  refine ⟨⟨_, _, hV⟩, ⟨Fx.nm, fun f a e => ?_⟩, fun c ci e Ca eC => ?_, fun c x h1 h2 => ?_⟩
  · obtain ⟨kp, fi', ef', ⟨F'⟩⟩ := Fx.fn f a e
    exact ⟨kp, hA f a fi' ef' F'⟩
  · obtain ⟨c1, c2, c3⟩ := Fx.cls c ci e Ca eC
    refine ⟨c1, c2, fun m f em => ?_⟩
    obtain ⟨a', fi', hm, ef', ⟨F'⟩⟩ := c3 m f em
    exact ⟨a', hm, hA f a' fi' ef' F'⟩
  · obtain ⟨ci, f', Ca, a', fi', e1, e2, e3, e4, mk, ef', ⟨F'⟩⟩ := Fx.mks c x h1 h2
    exact ⟨ci, f', Ca, a', e1, e2, e3, e4, mk, hA f' a' fi' ef' F'⟩
/-- the tables of the def at hand -/
theorem tab_of (Fx : Facts P w K mg base M C) {a : Addr} {fd : FuncData} {qual : Str} {cdv : Value} {mkl : Bool} (tb : mkl = true → ∃ p, a = He.fAd K p ∧ (p, qual) ∈ C.tf) (hm : mkl = true) (lk : ∃ (oc : Value) (od : Option Addr) (osl : Array (Option Value)), K.lookup a = some ⟨oc, od, .func fd, osl⟩) (e : fd.code = cdv) (hc : PySem.W.codeIn K cdv qual = true) :
    ∃ c P', cdv = .ref c ∧ LamX.TabB base mg c P' ∧ (P', qual ++ ".<locals>." ++ "<lambda>") ∈ M.tb ∧ ∀ p ∈ M.tb, p.1 = P' → p.2 = qual ++ ".<locals>." ++ "<lambda>" := by
  obtain ⟨p, rfl, hp⟩ := tb hm
  obtain ⟨oc, od, osl, lk⟩ := lk
  obtain ⟨c, rfl⟩ := He.codeIn_ref hc
  have ec := He.codeOf_eq lk e
  obtain ⟨t1, t2, t3⟩ := Fx.tab p qual hp
  refine ⟨c, (He.cT K p).2, rfl, ?_, t2, t3⟩
  rw [← ec]
  exact t1
theorem fnOk1 (Fx : Facts P w K mg base M C) {n : Nat} (lw : Low P w K mg base M C n (callF M.W L n)) (f : Nat) (a : Addr) (fi : FI) (ef : M.W.fns[f]? = some fi) (F : FnF K C fi a) : FnG P w K mg base (L2.CX P w) (2 * (n + 1) + 1) a F.fd F.ps (spI M K (callF M.W L (n + 1)) fi.np f) := by
  refine fn_G F.F F.S (fun vs H Q E h => by rw [h.1, F.np]) (fun cdv A outer s H vs Q E lk hcode hci hgd hr hsp => ?_)
  obtain ⟨hl, ds, h, as, hi, rs, p⟩ := hsp
  refine ⟨tS (M.g K) (fun c d _ H => E c d H) (evalB M.W L (callF M.W L n) M.cx fi.body), ?_, ?_⟩
  · have hz := Fx.z
    have Kk : Cok (cxOf (L2.CX P w) P w K mg base F.N F.qual F.scope a cdv A outer s H E) M { C with N := F.N, mkl := F.mkl } F.scope n (fun c d _ H => E c d H) (callF M.W L n) := by
      refine ⟨fun _ => ⟨rfl, hr, fun _ => Fx.nex, Fx.nxd, fun _ => Fx.ncx, hz.symm ▸ vir_cc (l := C.lam) lw.vir, hz.symm ▸ lw.fns, hz.symm ▸ lw.cls, hz.symm ▸ lw.mks, Fx.exs, ⟨Fx.exm.nm, Fx.exm.exm, Fx.exm.xf⟩⟩, fun _ _ _ _ _ q => (by rw [show ({ C with N := F.N, mkl := F.mkl } : Ck).hot = C.hot from rfl, Fx.hot] at q; cases q),
        fun _ _ _ _ _ _ _ q => (by rw [show ({ C with N := F.N, mkl := F.mkl } : Ck).lam = C.lam from rfl, Fx.nlm] at q; cases q), fun _ hm => tab_of Fx F.tb hm lk hcode hci,
        rfl, F.S.nd, fun x hx => visB_cases hx, fun x hx => ⟨locB_cases hx, .inl rfl⟩, fun x hx => kindB_ok hx, fun x k _ e => e, fun x e => .inl e, (by have := hr.un; show (A.deeper (envOfC F.qual F.scope s.heap.objs.size a cdv)).units + 200 < cLine; omega), hgd, takes_of rfl rfl rfl rfl, passes_of rfl, Fx.con, Fx.scr, Fx.glb, Fx.bl, Fx.gs, Fx.gi⟩
    exact sB fi.body F.ck Kk ⟨rfl, rfl⟩
  · have hdl : ds.length = fi.np := by rw [rs.length, hl]
    simp only [callF, ef, if_pos hdl, FI.cx, FI.st, F.lm] at p
    rw [← Fx.ncx] at p
    refine ⟨start fi.ns ds, h, as, ?_, hi, ?_⟩
    · rw [← F.ns]; exact sl_start Fx.nex rs
    · match e : evalB M.W L (callF M.W L n) M.cx fi.body (start fi.ns ds) h with
      | .ok (.nx σ1) h1 => rw [e] at p; exact fun as' H' σ' x i _ => p .non as' H' x i (by simp only [Rep])
      | .ok (.bk σ1) h1 => rw [e] at p; exact p.elim
      | .ok (.ct σ1) h1 => rw [e] at p; exact p.elim
      | .ok (.rt d) h1 => rw [e] at p; exact fun as' H' v x i r => p v as' H' x i r
      | .exc c fs σ1 h1 => rw [e] at p; exact fun Cc dx vs as' H' σ' x i k1 k2 k3 _ => p Cc dx vs as' H' x i k1 k2 k3
      | .no => rw [e] at p; exact p.elim
end
end Rf
end

section
namespace Rf
open PySem PySem.Spec PyProof.Rows L2

/-! ## the body of a lambda -/
theorem reps_of_idx {G : Gx} {as : List Addr} {H : Hp} : ∀ {ds : List D} {R : Nat → L2.V → Prop}, (∀ (i : Nat) d, ds[i]? = some d → ∃ v, R i v ∧ Rep G as H d v) → ∃ vs, Reps G as H ds vs ∧ ∀ (i : Nat) v, vs[i]? = some v → R i v
  | [], _, _ => ⟨[], by simp [Reps], by simp⟩
  | d :: ds, R, h => by
    obtain ⟨v, r1, r2⟩ := h 0 d rfl
    obtain ⟨vs, q1, q2⟩ := reps_of_idx (ds := ds) (R := fun i v => R (i + 1) v) fun i d' e => h (i + 1) d' (by simpa using e)
    refine ⟨v :: vs, by simp only [Reps]; exact ⟨v, vs, rfl, r2, q1⟩, fun i v' e => ?_⟩
    cases i with
    | zero => simp at e; subst e; exact r1
    | succ i => exact q2 i v' (by simpa using e)
theorem lookup_nd {α : Type} {x : Str} {u : α} : ∀ {l : List (Str × α)}, (l.map (·.1)).Nodup → (x, u) ∈ l → l.lookup x = some u
  | (y, v) :: r, nd, hm => by
    simp only [List.map_cons, List.nodup_cons] at nd
    rw [List.lookup_cons]
    rcases List.mem_cons.mp hm with e | e
    · cases e; rw [beq_self_eq_true]
    · have : (x == y) = false := by
        rw [beq_eq_false_iff_ne]; rintro rfl
        exact nd.1 (List.mem_map.mpr ⟨_, e, rfl⟩)
      rw [this]; exact lookup_nd nd.2 e
theorem lookup_rev_zip {ps : List Str} {us : List Value} {i : Nat} {x : Str} {u : Value} (nd : ps.Nodup) (hl : us.length = ps.length) (h1 : ps[i]? = some x) (h2 : us[i]? = some u) : (ps.zip us).reverse.lookup x = some u := by
  refine lookup_nd ?_ ?_
  · rw [List.map_reverse, List.map_fst_zip (by omega)]; unfold List.Nodup; rw [List.pairwise_reverse]; exact nd.imp fun h e => h e.symm
  · rw [List.mem_reverse]
    refine List.mem_of_getElem? (i := i) ?_
    rw [List.getElem?_zip_eq_some]
    exact ⟨h1, h2⟩
/-- the body of a lambda, entered -/
def lamX (P : Program) (w : World) (K : PySem.W.Frag) (mg : Str → Option Value) (base : Heap) (N : List Str) (A : Around) (outer : List Env) (s : Shared) (H : Hp) (E : XK) (env : Env) : Cx where
  prog := P
  w := w
  K := K
  mg := mg
  base := base
  A := A.deeper env
  N := N
  s_0 := s
  H_0 := H
  env := env
  outer := outer
  stack := env :: outer
  ex := []
  fn := fun _ => false
  calm := true
  pn := []
  xe := fun e s' => wpAny (model P w) (A.deeper env) (leaving env e) (fun _ s'' => L2.CX P w outer H s E e s'') (fun e' s'' => L2.CX P w outer H s E e' s'') s'
theorem lam_in {P : Program} {w : World} {K : PySem.W.Frag} {mg : Str → Option Value} {base : Heap} {A : Around} {outer : List Env} {E : XK} {sc scope : Scope} {capN ps : List Str} {q : Str} {b : Addr} {cdv : Value} {cl : List (Str × Addr)} {s : Shared} {H : Hp} {h₁ : Heap} {tk : Nat} {wv vs : List L2.V} {us : List Value}
    (S : LamSc sc scope capN ps) (e0 : Env0 P w K mg base A outer s H) (hd : A.handled = none) (cell : ∀ y c, cl.lookup y = some c → (∃ v, s.heap.IsCell c v) ∧ H c = none) (inj : ∀ y z c, cl.lookup y = some c → cl.lookup z = some c → y = z) (has : ∀ y, scope.names.lookup y = some .free → ∃ c, cl.lookup y = some c)
    (hw : wv.length = capN.length) (hcap : ∀ (i : Nat) y v, capN[i]? = some y → wv[i]? = some v → ∃ c u, cl.lookup y = some c ∧ s.heap.IsCell c (some u) ∧ L2.RelV v u) (r : Vals vs us) (hl : vs.length = ps.length)
    (hns : h₁.Ns s.heap.objs.size (fun y => (ps.zip us).reverse.lookup y)) (kp : ∀ b o, s.heap.get? b = some o → h₁.get? b = some o) :
    Inv (lamX P w K mg base (capN ++ ps) A outer s H E (PySem.W.envX q scope s.heap.objs.size b cdv cl)) [] ((wv ++ vs).map some) H { s with heap := h₁, toks := tk } := by
  have ck : ∀ {c : Addr} {v : Option Value}, s.heap.IsCell c v → h₁.IsCell c v := fun ⟨o, ho, hd⟩ => ⟨o, kp _ _ ho, hd⟩
  have none_ : ∀ {b : Addr}, b ∈ ([] : List Addr) → False := fun z => by cases z
  have free_ : ∀ {y}, scope.names.lookup y = some .cell → False := fun h => S.nc _ (PySem.mem_of_lookup h) rfl
  have ul : us.length = ps.length := by rw [← hl, r.length]
  refine ⟨⟨e0.mod, S.kind, rfl, rfl, Nat.le_refl _, inj, fun y hy => ?_, fun y c z _ => ?_, fun _ => hd, Around.frames_deeper e0.frames, .inr ⟨rfl, rfl⟩, fun b z => (none_ z).elim, e0.bs, e0.bsz, fun b _ _ z => none_ z, fun b z => (none_ z).elim, e0.funs, e0.frf⟩,
    rfl, e0.bare, Un.kept kp, ⟨_, hns, fun i y v e1 e2 e3 => ?_⟩, fun y c e => ?_, e0.hok.fresh (Nat.le_refl _), fun y c e => (cell y c e).2, fun p hp => ?_, e0.hok.kept kp, ?_⟩
  · rcases hy with hy | hy
    · exact (free_ hy).elim
    · exact has y hy
  · cases (show false = true from z)
  · have e1' : (capN ++ ps)[i]? = some y := e1
    have e2' : ((wv ++ vs).map some)[i]? = some (some v) := e2
    rw [List.getElem?_map] at e2'
    have e4 : (wv ++ vs)[i]? = some v := by
      cases z : (wv ++ vs)[i]? with
      | none => rw [z] at e2'; cases e2'
      | some v' => rw [z] at e2'; cases e2'; rfl
    by_cases hi : i < capN.length
    · rw [List.getElem?_append_left hi] at e1'
      rw [List.getElem?_append_left (by rw [hw]; exact hi)] at e4
      obtain ⟨c, u, h1, h2, h3⟩ := hcap i y v e1' e4
      exact ⟨u, h3, .inr ⟨.inr (S.cap y (List.mem_of_getElem? e1')), c, h1, ck h2⟩⟩
    · rw [List.getElem?_append_right (by omega)] at e1'
      rw [List.getElem?_append_right (by omega)] at e4
      obtain ⟨u, h1, h2⟩ := r.get e4
      refine ⟨u, h2, .inl ⟨S.pl y (List.mem_of_getElem? e1'), ?_⟩⟩
      exact lookup_rev_zip ((List.nodup_append.mp S.nd).2.1) ul e1' (by rw [← hw]; exact h1)
  · obtain ⟨v, h⟩ := (cell y c e).1
    exact ⟨v, ck h⟩
  · cases (show p ∈ ([] : List (Addr × Obj)) from hp)
  · show ((wv ++ vs).map some).length = (capN ++ ps).length
    simp [hw, hl]
section
variable {P : Program} {w : World} {K : PySem.W.Frag} {mg : Str → Option Value} {base : Heap} {M : Mx} {C : Ck} {L : Nat}
theorem post_fin {G : Gx} {Wx : WX} {as : List Addr} {H : Hp} {σ σ' : L2.St} {σI : Sg} {r : R D} {Q : VK} (hw : ∀ c d H, Wx c d σ H → Wx c d σ' H) (p : post G Wx (Rep G) as H σ (r.stm σI fun x h => (RS.ok (.rt x) h)).fin Q) : post G Wx (Rep G) as H σ' r Q := by
  cases r with
  | ok d h => exact p
  | exc c fs h => exact fun C dx vs as' H' e i q1 q2 q3 => hw _ _ _ (p C dx vs as' H' e i q1 q2 q3)
  | no => exact p
theorem lamOk1 (Fx : Facts P w K mg base M C) {n : Nat} (lw : Low P w K mg base M C n (callF M.W L n)) {j : Nat} {capN ps : List Str} (elm : C.lms j = some (capN, ps)) {sc scope : Scope} {body : Expr} {params : Arguments} (hB : C.lamB j scope body = true) (epar : parsB params = some ps) (hsc : lamScB sc scope capN ps = true)
    {q : Str} {cl : List (Str × Addr)} {b c' : Addr} {pm ctv : Value} {fs : List Addr} {s : Shared} {H : Hp} {as : List Addr} {caps : List D} (ho : s.heap.get? b = some (PySem.W.kla_obj "<lambda>" q params body scope cl pm c' ctv)) (nb : H b = none) (nf : b ∉ fs) (cel : CelC K M scope cl capN caps s H as) :
    LamC P w K mg base M (2 * n + 3) (callF M.W L (n + 1)) j caps b c' q fs s H as := by
  have S := lamSc_of hsc
  obtain ⟨e, ef, hchk⟩ := Fx.lam j capN ps elm
  have hz := Fx.z
  refine ⟨nb, nf, ⟨_, _, _, _, ho⟩, fun A out s' H' as' h' us vs ds Q E g hr e0 un hco rv pre hi rs p => ?_⟩
  simp only [callF, ef] at p
  split at p
  rotate_left
  · exact p.elim
  rename_i hlen
  simp only [List.length_append, cel.len] at hlen
  have dl : ds.length = ps.length := by omega
  have vl : vs.length = ps.length := by rw [← rs.length, dl]
  have ul : us.length = ps.length := by rw [← rv.length, vl]
  simp only [FI.cx, FI.st, evalB, evalS] at p
  have hst : start (capN.length + ps.length) (caps ++ ds) = (caps ++ ds).map some := by
    unfold start
    rw [List.length_append, cel.len, dl, Nat.sub_self]; simp
  rw [hst] at p
  -- what the lambda holds
  have rv' := un.keep b _ ho nb nf (by simp)
  obtain ⟨wv, rw1, rw2⟩ := reps_of_idx (G := M.g K) (as := as) (H := H) (ds := caps) (R := fun i v => ∀ y, capN[i]? = some y → ∃ c u, cl.lookup y = some c ∧ s.heap.IsCell c (some u) ∧ L2.RelV v u) fun i d ed => by
    have hi' : i < capN.length := by rw [← cel.len]; exact (List.getElem?_eq_some_iff.mp ed).1
    obtain ⟨c, u, v, h1, h2, h3, h4⟩ := cel.cap i capN[i] d (by simp [hi']) ed
    exact ⟨v, fun y ey => by rw [List.getElem?_eq_getElem hi'] at ey; cases ey; exact ⟨c, u, h1, h2, h3⟩, h4⟩
  have cell' : ∀ {c : Addr} {v : Option Value}, H c = none → s.heap.IsCell c v → s'.heap.IsCell c v := fun {c v} nn ⟨o, ho, hd⟩ => by
    obtain ⟨sl, q⟩ := un.any ho nn (by simp)
    exact ⟨_, q, hd⟩
  have wl : wv.length = capN.length := by rw [← rw1.length, cel.len]
  obtain ⟨⟨oc, fv, tt, hoc, hdc, hvc⟩, _, _⟩ := e0.hok c' _ hco
  have lim := e0.mod.nolimit.keeps fun b o e => (e0.bs b o e).1
  refine PySem.W.kla_callFunE hr.depth rv' rfl S.co S.gen rfl ⟨c', oc, fv, tt, rfl, hoc, hdc, hvc⟩ ?_
  rw [pars_bind epar q body scope cl pm (.ref c') ctv us ul]
  refine wpAny_pure (wpAny_newFunctionEnv (fun y hy => S.nc y hy) (fun y hy => S.pl _ (List.of_mem_zip hy).1) (fun h₁ hns hsb => ⟨lim.fresh _ hsb, ?_⟩) S.kind)
  have kp : ∀ b o, s'.heap.get? b = some o → h₁.get? b = some o := fun b o e => hsb.extBut b o (Nat.ne_of_lt (Heap.lt_size e)) (Heap.get?_push_of_some _ e)
  show codeAny _ _ (.expr body (PySem.W.envX q scope s'.heap.objs.size b (.ref c') cl)) _ _
  have J := lam_in (P := P) (w := w) (K := K) (mg := mg) (base := base) (E := E) (q := q) (b := b) (cdv := .ref c') (tk := s'.toks + (ps.zip us).length) S e0 hr.hd (fun y c e => ⟨let ⟨v, hv⟩ := (cel.cell y c e).1; ⟨v, cell' (cel.cell y c e).2 hv⟩, let ⟨v, o, ho, _⟩ := (cel.cell y c e).1; un.free c o ho (cel.cell y c e).2 (by simp)⟩) cel.inj cel.has wl
    (fun i y v e1 e2 => by
      obtain ⟨c, u, h1, h2, h3⟩ := rw2 i v e2 y e1
      exact ⟨c, u, h1, cell' (cel.cell y c h1).2 h2, h3⟩) rv vl hns kp
  have Kk : Cok (lamX P w K mg base (capN ++ ps) A out s' H' E (PySem.W.envX q scope s'.heap.objs.size b (.ref c') cl)) M (C.plain (capN ++ ps)) scope n (fun c d _ H => E c d H) (callF M.W L n) := by
    refine ⟨fun _ => ⟨rfl, (hr.mono (show 2 * n + 2 + 1 ≤ 2 * n + 3 by omega)).deeper _, fun _ => Fx.nex, Fx.nxd, fun _ => Fx.ncx, ⟨0, callF M.W L n, fun _ _ _ q => (nomatch q), fun _ _ _ _ q => (nomatch q), fun _ _ _ q => (nomatch q)⟩, hz.symm ▸ lw.fns, hz.symm ▸ lw.cls, hz.symm ▸ lw.mks, Fx.exs, ⟨Fx.exm.nm, Fx.exm.exm, Fx.exm.xf⟩⟩, fun _ _ _ _ _ q => (by rw [show (C.plain (capN ++ ps) : Ck).hot = C.hot from rfl, Fx.hot] at q; cases q),
      fun _ _ _ _ _ _ _ q => (by rw [show (C.plain (capN ++ ps) : Ck).lam = C.lam from rfl, Fx.nlm] at q; cases q), fun _ q => (by rw [show (C.plain (capN ++ ps) : Ck).mkl = C.mkl from rfl, Fx.nmk] at q; cases q),
      rfl, S.nd, fun x hx => visB_cases hx, fun x hx => ?_, fun x hx => kindB_ok hx, fun x k _ e => e, fun x e => .inl e, (by have := (hr.mono (show 2 * n + 2 + 1 ≤ 2 * n + 3 by omega)).deeper (PySem.W.envX q scope s'.heap.objs.size b (.ref c') cl); have := this.un; show (A.deeper _).units + 200 < cLine; omega), g, takes_of rfl rfl rfl rfl, passes_of rfl, Fx.con, Fx.scr, Fx.glb, Fx.bl, Fx.gs, Fx.gi⟩
    rcases locB_cases hx with e | e
    · exact ⟨.inl e, .inr e⟩
    · exact absurd rfl (S.nc _ (PySem.mem_of_lookup e))
  have hse := (sE e (hchk scope body hB) Kk).1.1
  refine PySem.W.kla_codeExpr (wpAny_mono (hse.run [] _ _ _ Q J ?_) (fun v s2 hq => ?_) fun e' s2 hq => hq)
  · refine ⟨(caps ++ ds).map some, h', as', ?_, hi, ?_⟩
    · have rr : Reps (M.g K) as' H' (caps ++ ds) (wv ++ vs) := Reps.append (rw1.mono0 pre un.tups) rs
      refine ⟨by rw [List.length_map, List.length_map, rr.length], fun i d ed => ?_, fun i a q => by rw [show (M.g K).ex = M.ex from rfl, Fx.nex] at q; cases q⟩
      rw [List.getElem?_map] at ed
      have ed' : (caps ++ ds)[i]? = some d := by
        cases z : (caps ++ ds)[i]? with
        | none => rw [z] at ed; cases ed
        | some d' => rw [z] at ed; cases ed; rfl
      obtain ⟨v, h1, h2⟩ := rr.get ed'
      exact ⟨v, by rw [List.getElem?_map, h1]; rfl, h2⟩
    · rw [Fx.ncx]
      refine post_fin (σ := []) (fun _ _ _ q => q) (σI := (caps ++ ds).map some) ?_
      cases hev : evalE M.W (callF M.W L n) none e ((caps ++ ds).map some) h' <;> rw [hev] at p <;> exact p
  · obtain ⟨w', H2, J', rv2, q2⟩ := hq
    exact ⟨w', H2, J'.os, J'.bare, J'.base, J'.hok, rv2, q2⟩
/-- a def to which a lambda is given -/
theorem fnV1 (Fx : Facts P w K mg base M C) {n : Nat} (lw : Low P w K mg base M C n (callF M.W L n)) {v j : Nat} {a : Addr} (V : VOf M K C v j a) {capN ps : List Str} (elm : C.lms j = some (capN, ps)) :
    FnVB P w K mg base M (n + 1) (callF M.W L (n + 1)) (klN (n + 1)) (cflN M.W L (n + 1)) a v j capN.length := by
  obtain ⟨fi, i, ef, hfi, ⟨F⟩⟩ := V
  obtain ⟨hlm, hnp⟩ := hfi capN ps elm
  have hz := Fx.z
  refine ⟨F.fd, F.ps, i, F.B, F.np, fun ds h hn => ?_, fun A out s H us vs b c' q ds caps h as Q E g hr e0 hb rv hvl Lc nas hco hi rs p => ?_⟩
  · rw [callF_np ef hn, hnp]
  have hn : callF M.W L (n + 1) v (ds ++ caps) h ≠ .no := fun e => by rw [e] at p; exact p
  have hlen := callF_np ef hn
  have dl : ds.length = i := by rw [rs.length, hvl]
  refine fn_go F.F F.S hr e0 hb rv (by rw [F.np]; simp [hvl]) fun cdv lk hcode hci hr' => ?_
  let M' : Mx := { M with cx := some (j, caps.map fun d => ("", d)), ex := some (i, b), lc := some (c', q, as) }
  have hz' : M'.z = M := by
    have : M'.z = M.z := rfl
    rw [this, hz]
  have hi' : HI (M'.g K) h as H := ⟨⟨fun dd fs e => (by rw [show (M'.g K).xd = M.xd from rfl, Fx.nxd] at e; cases e), fun c q' as0 e => (by cases (show some (c', q, as) = some (c, q', as0) from e); exact ⟨⟨nas, hco⟩, fun _ _ z => z⟩)⟩, hi.tb, hi.len, hi.nd, fun n mo a e1 e2 => obR_g (G := M.g K) (G' := M'.g K) rfl rfl rfl (hi.ob n mo a e1 e2)⟩
  refine ⟨tS (M'.g K) (fun c d _ H => E c d H) (evalB M.W L (callF M.W L n) M'.cx fi.body), ?_, ?_⟩
  · have Kk : Cok (cxOf (L2.CX P w) P w K mg base F.N F.qual F.scope a cdv A out s H E) M' { C with N := F.N, lam := some i, mkl := F.mkl } F.scope n (fun c d _ H => E c d H) (callF M.W L n) := by
      refine ⟨fun _ => ⟨rfl, hr', fun q => (by cases q), Fx.nxd, fun q => (by cases q), hz'.symm ▸ vir_cc (l := some i) lw.vir, hz'.symm ▸ lw.fns, hz'.symm ▸ lw.cls, hz'.symm ▸ lw.mks, Fx.exs, ⟨Fx.exm.nm, Fx.exm.exm, Fx.exm.xf⟩⟩, fun _ _ _ _ _ q => (by rw [show ({ C with N := F.N, lam := some i, mkl := F.mkl } : Ck).hot = C.hot from rfl, Fx.hot] at q; cases q),
        ?_, fun _ hm => tab_of Fx F.tb hm lk hcode hci,
        rfl, F.S.nd, fun x hx => visB_cases hx, fun x hx => ⟨locB_cases hx, .inl rfl⟩, fun x hx => kindB_ok hx, fun x k _ e => e, fun x e => .inl e, (by have := hr'.un; show (A.deeper (envOfC F.qual F.scope s.heap.objs.size a cdv)).units + 200 < cLine; omega), g, takes_of rfl rfl rfl rfl, passes_of rfl, fun g ys a e1 e2 => (by
          obtain ⟨vs, h1, h2⟩ := Fx.con g ys a e1 e2
          exact ⟨vs, fun H as => ⟨(h1 H as).1, reps_g (G := M.g K) (G' := M'.g K) rfl rfl (h1 H as).2⟩, h2⟩), Fx.scr, Fx.glb, Fx.bl, Fx.gs, Fx.gi⟩
      intro i' x es xs p0 pos hot hi2 hN hvis hok hx hpa
      cases (show some i = some i' from hi2)
      obtain ⟨d1, d2, _⟩ := okN_ok hok
      refine ⟨fun pins s1 σ H1 Q1 I h => ?_⟩
      obtain ⟨σI, h1, as1, sl, hi1, p1⟩ := h
      simp only [evalE, show M'.cx = some (j, caps.map fun d => ("", d)) from rfl] at p1
      split at p1
      rotate_left
      · exact p1.elim
      rename_i j' fs' hj hσ
      cases hj
      have hcaps : (caps.map fun d => (("", d) : String × D)).map (·.2) = caps := by rw [List.map_map]; exact (List.map_congr_left fun _ _ => rfl).trans (List.map_id _)
      rw [hcaps] at p1
      have e1 := sl.ex i b rfl hσ
      have tk0 : Takes (cxOf (L2.CX P w) P w K mg base F.N F.qual F.scope a cdv A out s H E) (fun c d _ H => E c d H) := takes_of rfl rfl rfl rfl
      have fnAt : ∀ {pins s2 σ2 H2}, Inv (cxOf (L2.CX P w) P w K mg base F.N F.qual F.scope a cdv A out s H E) pins σ2 H2 s2 → PySem.W.FnAt b s2.heap := fun J => by
        obtain ⟨oc, od, fd', sl', e⟩ := Lc.fn
        exact ⟨oc, od, fd', sl', J.base.keep b _ e Lc.nb Lc.nf (fun z => nomatch (show b ∈ ([] : List Addr) from z))⟩
      have fin : ∀ {s2 H2 us2 vs2 ds2 h2 as2}, Inv (cxOf (L2.CX P w) P w K mg base F.N F.qual F.scope a cdv A out s H E) pins σ H2 s2 → Vals vs2 us2 → HI (M'.g K) h2 as2 H2 → Reps (M'.g K) as2 H2 ds2 vs2 →
          post (M'.g K) (fun c d _ H => E c d H) (Rep (M'.g K)) as2 H2 σ (callF M.W L n j (caps ++ ds2) h2) Q1 →
          wpAny (model P w) (A.deeper (envOfC F.qual F.scope s.heap.objs.size a cdv)) (call (.ref b) us2) (EP (cxOf (L2.CX P w) P w K mg base F.N F.qual F.scope a cdv A out s H E) pins σ Q1) (cxOf (L2.CX P w) P w K mg base F.N F.qual F.scope a cdv A out s H E).xe s2 := by
        intro s2 H2 us2 vs2 ds2 h2 as2 J rv2 hi2 rs2 p2
        obtain ⟨⟨_, hc2⟩, pre⟩ := hi2.xd.2 c' q as rfl
        have pz := post_z (M := M') (σ' := []) (Wx' := fun c d _ H => E c d H) (fun _ _ _ q => q) hi2.xd p2
        have hz2 := hi2.z
        have rz2 := reps_z rs2
        rw [hz'] at pz hz2 rz2
        refine wpAny_call (codeAny_mono (Lc.go _ (envOfC F.qual F.scope s.heap.objs.size a cdv :: out) s2 H2 as2 h2 us2 vs2 ds2 Q1 E g (hr'.mono (by show 2 * n + 1 ≤ 2 * n + 2; omega)) J.env0 J.base hc2 rv2 pre hz2 rz2 pz) fun r s3 hq => ?_)
        have z := cr_end J (fun e _ c => passAt tk0 σ pins H2 s2 e s3 J c) hq
        rcases r with e | fl
        · exact z
        · rcases fl with _ | _ | _ | u
          · exact z
          · exact z
          · exact z
          · exact z
      refine wpAny_Call_Name_kw (thn ((pe_var (pos := p0) (i := i) hN hvis d1 d2).run pins s1 σ H1 (fun v H2 => v = .ref b ∧ H2 = H1) I ⟨.ref b, e1, rfl, rfl⟩) fun u s2 ⟨v2, H2, I1, r1, q1⟩ => ?_)
      obtain ⟨rfl, rfl⟩ := q1
      cases r1
      cases xs with
      | nil =>
        cases es with
        | cons e es => simp [chkEs] at hx
        | nil => exact PySem.W.callWith_F0 (fnAt I1) (fin (us2 := []) (vs2 := []) (ds2 := []) I1 .nil hi1 (by simp only [Reps]) (by simp only [evalEs, R.bind_ok] at p1; exact p1))
      | cons y ys =>
        cases es with
        | nil => simp [chkEs] at hx
        | cons e es =>
          simp only [chkEs, Bool.and_eq_true, Bool.not_eq_true'] at hx
          refine PySem.W.callWith_F (fnAt I1) (thn (hpa.run pos pins s2 σ _ _ I1 (thens sl hi1 p1)) fun us3 s3 ⟨vs3, H3, I3, r, q⟩ => ⟨fnAt I3, ?_⟩) (star_one hx.1.2 _ _) (chkEs_star hx.2)
          obtain ⟨ds3, h3, as3, _, x3, _, i3, rs3, p3⟩ := q
          exact fin I3 r i3 rs3 p3
    exact sB fi.body F.ck Kk ⟨rfl, rfl⟩
  · have ciz : ∀ {h1 as1 H1}, HI (M'.g K) h1 as1 H1 → HI (M.g K) h1 as1 H1 := fun q => by have q2 := q.z; rw [hz'] at q2; exact q2
    have crz : ∀ {as1 H1 d v}, Rep (M'.g K) as1 H1 d v → Rep (M.g K) as1 H1 d v := fun q => rep_g (G := M'.g K) (G' := M.g K) rfl rfl q
    have cfz : ∀ {as1 H1 fs vs}, RepF (M'.g K) as1 H1 fs vs → RepF (M.g K) as1 H1 fs vs := fun q => repF_g (G := M'.g K) (G' := M.g K) rfl rfl q
    simp only [callF, ef, if_pos hlen, FI.cx, FI.st, hlm] at p
    rw [List.drop_left' dl, List.take_left' dl] at p
    refine ⟨start fi.ns ds, h, as, ?_, hi', ?_⟩
    · have rs' : Reps (M'.g K) as H ds vs := reps_g (G := M.g K) (G' := M'.g K) rfl rfl rs
      have hNl : i < F.N.length := by
        have := congrArg List.length F.S.pre
        rw [List.length_take, F.np] at this
        omega
      refine ⟨?_, fun k d ed => ?_, fun k b' q2 _ => ?_⟩
      · unfold start L2.start
        rw [List.length_append, List.length_append, List.length_map, List.length_map, List.length_replicate, List.length_replicate, List.length_append, dl, hvl, ← F.ns]
        simp
        omega
      · unfold start at ed
        by_cases hk : k < ds.length
        · rw [List.getElem?_append_left (by simpa using hk), List.getElem?_map] at ed
          cases z : ds[k]? with
          | none => rw [z] at ed; cases ed
          | some d' =>
            rw [z] at ed; cases ed
            obtain ⟨v', e1, e2⟩ := rs'.get z
            have hv : k < vs.length := (List.getElem?_eq_some_iff.mp e1).1
            refine ⟨v', ?_, e2⟩
            unfold L2.start
            rw [List.getElem?_append_left (by simp; omega), List.getElem?_map, List.getElem?_append_left hv, e1]; rfl
        · rw [List.getElem?_append_right (by simpa using hk), List.getElem?_replicate] at ed
          split at ed <;> cases ed
      · cases (show some (i, b) = some (k, b') from q2)
        unfold L2.start
        rw [List.getElem?_append_left (by simp; omega), List.getElem?_map, List.getElem?_append_right (by omega), hvl, Nat.sub_self]; rfl
    · show postS (M'.g K) _ as H (evalB M.W L (callF M.W L n) (some (j, caps.map fun d => ("", d))) fi.body (start fi.ns ds) h) _
      match e : evalB M.W L (callF M.W L n) (some (j, caps.map fun d => ("", d))) fi.body (start fi.ns ds) h with
      | .ok (.nx σ1) h1 => rw [e] at p; exact fun as' H' σ' x i _ => p .non as' H' x (ciz i) (by simp only [Rep])
      | .ok (.bk σ1) h1 => rw [e] at p; exact p.elim
      | .ok (.ct σ1) h1 => rw [e] at p; exact p.elim
      | .ok (.rt d) h1 => rw [e] at p; exact fun as' H' v x i r => p v as' H' x (ciz i) (crz r)
      | .exc c fs σ1 h1 => rw [e] at p; exact fun Cc dx vs as' H' σ' x i k1 k2 k3 _ => p Cc dx vs as' H' x (ciz i) k1 k2 (cfz k3)
      | .no => rw [e] at p; exact p.elim
/-- all, by the depth of the calls -/
theorem fnAll (Fx : Facts P w K mg base M C) : ∀ n : Nat,
    (∀ (f : Nat) (a : Addr) (fi : FI), M.W.fns[f]? = some fi → ∀ F : FnF K C fi a, FnG P w K mg base (L2.CX P w) (2 * n + 1) a F.fd F.ps (spI M K (callF M.W L n) fi.np f)) ∧
    (∀ (v j : Nat) (a : Addr), VOf M K C v j a → ∀ capN ps, C.lms j = some (capN, ps) → FnVB P w K mg base M n (callF M.W L n) (klN n) (cflN M.W L n) a v j capN.length) ∧
    VirOk P w K mg base M C n (callF M.W L n) (klN n) (cflN M.W L n) ∧
    (∀ j capN ps, C.lms j = some (capN, ps) → ∀ (sc scope : Scope) (body : Expr) (params : Arguments), C.lamB j scope body = true → parsB params = some ps → lamScB sc scope capN ps = true →
      ∀ (q : Str) (cl : List (Str × Addr)) (b c' : Addr) (pm ctv : Value) (fs : List Addr) (s : Shared) (H : Hp) (as : List Addr) (caps : List D),
        s.heap.get? b = some (PySem.W.kla_obj "<lambda>" q params body scope cl pm c' ctv) → H b = none → b ∉ fs → CelC K M scope cl capN caps s H as → LamC P w K mg base M (2 * n + 1) (callF M.W L n) j caps b c' q fs s H as) := by
  intro n
  have vir : ∀ n, (∀ (v j : Nat) (a : Addr), VOf M K C v j a → ∀ capN ps, C.lms j = some (capN, ps) → FnVB P w K mg base M n (callF M.W L n) (klN n) (cflN M.W L n) a v j capN.length) →
      (∀ j capN ps, C.lms j = some (capN, ps) → ∀ (sc scope : Scope) (body : Expr) (params : Arguments), C.lamB j scope body = true → parsB params = some ps → lamScB sc scope capN ps = true →
        ∀ (q : Str) (cl : List (Str × Addr)) (b c' : Addr) (pm ctv : Value) (fs : List Addr) (s : Shared) (H : Hp) (as : List Addr) (caps : List D),
          s.heap.get? b = some (PySem.W.kla_obj "<lambda>" q params body scope cl pm c' ctv) → H b = none → b ∉ fs → CelC K M scope cl capN caps s H as → LamC P w K mg base M (klN n) (cflN M.W L n) j caps b c' q fs s H as) →
      VirOk P w K mg base M C n (callF M.W L n) (klN n) (cflN M.W L n) := fun n hV hM => by
    refine ⟨fun v j x h => ?_, fun v j c m h => ?_, hM⟩
    · obtain ⟨a, e1, e2, e3⟩ := Fx.vfn v j x h
      exact ⟨a, e1, e2, fun capN ps e => hV v j a e3 capN ps e⟩
    · obtain ⟨ci, e1, e2⟩ := Fx.vmt v j c m h
      refine ⟨ci, e1, fun Ca hC => ?_⟩
      obtain ⟨a, e3, e4⟩ := e2 Ca hC
      exact ⟨a, e3, fun capN ps e => hV v j a e4 capN ps e⟩
  induction n with
  | zero =>
    have noL : ∀ {k : Nat} {cf : CF}, (∀ j ds h, cf j ds h = .no) → ∀ (j : Nat) (params : Arguments) (body : Expr) (scope : Scope) (q : Str) (cl : List (Str × Addr)) (b c' : Addr) (pm ctv : Value) (fs : List Addr) (s : Shared) (H : Hp) (as : List Addr) (caps : List D),
        s.heap.get? b = some (PySem.W.kla_obj "<lambda>" q params body scope cl pm c' ctv) → H b = none → b ∉ fs → LamC P w K mg base M k cf j caps b c' q fs s H as := fun hc j params body scope q cl b c' pm ctv fs s H as caps ho nb nf =>
      ⟨nb, nf, ⟨_, _, _, _, ho⟩, fun A out s' H' as' h' us vs ds Q E _ _ _ _ _ _ _ _ _ p => by rw [hc] at p; exact p.elim⟩
    have hV : ∀ (v j : Nat) (a : Addr), VOf M K C v j a → ∀ capN ps, C.lms j = some (capN, ps) → FnVB P w K mg base M 0 (callF M.W L 0) (klN 0) (cflN M.W L 0) a v j capN.length := fun v j a ⟨fi, i, ef, hfi, ⟨F⟩⟩ capN ps e =>
      ⟨F.fd, F.ps, i, F.B, F.np, fun ds h q => absurd rfl q, fun _ _ _ _ _ _ _ _ _ _ _ _ _ _ _ _ _ _ _ _ _ _ _ _ _ _ p => p.elim⟩
    refine ⟨fun f a fi ef F => ⟨fun vs H Q E h => by rw [h.1, F.np], fun A outer s H args us vs Q E _ hr e0 hb r hsp => ?_⟩, hV, vir 0 hV ?_, ?_⟩
    · obtain ⟨_, ds, h, as, hi, rs, p⟩ := hsp
      exact p.elim
    · intro j capN ps _ sc scope body params _ _ _ q cl b c' pm ctv fs s H as caps ho nb nf _
      exact noL (fun _ _ _ => rfl) j params body scope q cl b c' pm ctv fs s H as caps ho nb nf
    · intro j capN ps _ sc scope body params _ _ _ q cl b c' pm ctv fs s H as caps ho nb nf _
      exact noL (fun _ _ _ => rfl) j params body scope q cl b c' pm ctv fs s H as caps ho nb nf
  | succ n ih =>
    obtain ⟨hA, hV, hW, hL⟩ := ih
    have lw : Low P w K mg base M C n (callF M.W L n) := low_of Fx (fun f a fi ef F => ⟨F.fd, F.ps, fi.np, F.B, F.np, hA f a fi ef F, fun ds h hn => callF_np ef hn⟩) hW
    have hV1 : ∀ (v j : Nat) (a : Addr), VOf M K C v j a → ∀ capN ps, C.lms j = some (capN, ps) → FnVB P w K mg base M (n + 1) (callF M.W L (n + 1)) (klN (n + 1)) (cflN M.W L (n + 1)) a v j capN.length := fun v j a V capN ps e => fnV1 Fx lw V e
    refine ⟨fun f a fi ef F => fnOk1 Fx lw f a fi ef F, hV1, vir (n + 1) hV1 hL, ?_⟩
    intro j capN ps elm sc scope body params hB epar hsc q cl b c' pm ctv fs s H as caps ho nb nf cel
    exact lamOk1 Fx lw elm hB epar hsc ho nb nf cel
theorem fnOk (Fx : Facts P w K mg base M C) (n f : Nat) (a : Addr) (fi : FI) (ef : M.W.fns[f]? = some fi) (F : FnF K C fi a) : FnG P w K mg base (L2.CX P w) (2 * n + 1) a F.fd F.ps (spI M K (callF M.W L n) fi.np f) := (fnAll Fx n).1 f a fi ef F
end
end Rf
end

section
namespace Rf
open PySem PySem.Spec PyProof.Rows L2

/-! ## the law's call, where tables of code objects are tracked -/
/-- nothing but the script and empty tables -/
def OnlyT (T : List Addr) (H : Hp) : Prop := ∀ b, H b = none ∨ (∃ o xs, H b = some (.frz o (.lst xs))) ∨ (b ∈ T ∧ H b = some (.tbl #[]))
theorem law_GT {P : Program} {w : World} {K : PySem.W.Frag} {mg mb : Str → Option Value} {CX : CXT} {k : Nat} {fa a : Addr} {cs : List (Addr × Addr)} {fd : FuncData} {x : Str} {sp : Sp} {s₁ : Shared} {vs : List Value} {ns : List Int}
    (KX : K.In s₁.heap) (hns : s₁.heap.Ns mainGlobals mg) (hb : s₁.heap.Ns builtinsNs mb) (hbb : ∀ x : Str, x ≠ "__name__" → mb x = bootBuiltins x) (lim : s₁.heap.NoLimit) (hg : s₁.gens = #[])
    (tabs : ∀ p ∈ cs, s₁.heap.get? p.2 = some { cls := .none, data := .fields #[] }) (out : ∀ p ∈ cs, K.lookup p.2 = none) (heads : ∀ p ∈ cs, PySem.W.CodeHd s₁.heap p.1 p.2)
    (bm : ∃ (bm : Addr) (ob : Obj), mg "__builtins__" = some (.ref bm) ∧ bm ≠ builtinsNs ∧ s₁.heap.get? bm = some ob ∧ ob.cls = .type "module" ∧ ob.dict = some builtinsNs ∧ ob.data = .plain)
    (ha : s₁.heap.get? a = some { cls := .type "list", data := .seq vs.toArray }) (hi : IntsAre vs ns) (hl : ns.length ≤ sizeLine) (hr : Room k callerA)
    (F : ∀ base : Heap, K.In base → base.Ns mainGlobals mg → (∀ p ∈ cs, LamX.TabB base mg p.1 p.2) → FnG P w K mg base CX k fa fd [x] sp) (bind : ∀ (s : Shared) (u : Value), BindsTo s fd ⟨[u], []⟩ [(x, u)])
    (hsp : ∀ H : Hp, OnlyT (cs.map (·.2)) H → (∀ b ∈ cs.map (·.2), H b = some (.tbl #[])) → SqL K H a (ns.map V.int) → sp [.ref a] H (fun v _ => v = .bl true) fun _ _ _ => False)
    (hCX : ∀ H e s', CX [] H s₁ (fun _ _ _ => False) e s' → False) :
    codeAny (model P w) callerA (.call (.ref fa) ⟨[.ref a], []⟩) (fun r s' => r = .ok (.ret (.bool true)) ∧ OldK s₁.heap s'.heap ∧ s'.os = s₁.os ∧ AllBare s'.gens) s₁ := by
  have at_ : ∀ b ∈ cs.map (·.2), s₁.heap.get? b = some { cls := .none, data := .fields #[] } := fun b m => by
    obtain ⟨p, hp, rfl⟩ := List.mem_map.mp m
    exact tabs p hp
  have apart : a ∉ cs.map (·.2) := fun m => by
    have e := at_ a m
    rw [ha] at e
    cases e
  have main : ∀ H : Hp, OnlyT (cs.map (·.2)) H → (∀ b ∈ cs.map (·.2), H b = some (.tbl #[])) → SqL K H a (ns.map V.int) → HOk P w H s₁.heap → (∀ b, H b ≠ none → b = a ∨ b ∈ cs.map (·.2)) → (H a ≠ none → K.lookup a = none) →
      codeAny (model P w) callerA (.call (.ref fa) ⟨[.ref a], []⟩) (fun r s' => r = .ok (.ret (.bool true)) ∧ OldK s₁.heap s'.heap ∧ s'.os = s₁.os ∧ AllBare s'.gens) s₁ := by
    intro H hO hH hS hok hA hKa
    -- what is neither a list nor an empty table is not tracked
    have un : ∀ {b : Addr} {o : Obj}, s₁.heap.get? b = some o → (∀ v n, o.data ≠ .seq v n) → o.data ≠ .fields #[] → H b = none := by
      intro b o e n1 n2
      match q : H b with
      | none => rfl
      | some u =>
        rcases hA b (by rw [q]; simp) with z | z
        · rw [z, ha] at e; cases e; exact absurd rfl (n1 _ _)
        · rw [at_ b z] at e; cases e; exact absurd rfl n2
    have dictN : ∀ {b : Addr} {o : Obj} {es : Array DictEntry} {ep : Nat}, s₁.heap.get? b = some o → o.data = .dict es ep → H b = none := fun e d => un e (fun _ _ z => by rw [d] at z; cases z) (fun z => by rw [d] at z; cases z)
    have nsH : ∀ {b : Addr} {m : Str → Option Value}, s₁.heap.Ns b m → (hidT s₁.heap H).Ns b m := by
      rintro b m ⟨o, es, ep, e, d, r⟩
      exact ⟨o, es, ep, hidT_get e (dictN e d), d, r⟩
    have KH : K.In (hidT s₁.heap H) := by
      intro b o e
      refine hidT_get (KX b o e) ?_
      match q : H b with
      | none => rfl
      | some u =>
        have hne : H b ≠ none := by rw [q]; simp
        rcases hA b hne with z | z
        · rw [z] at e hne; rw [hKa hne] at e; cases e
        · obtain ⟨p, hp, rfl⟩ := List.mem_map.mp z
          rw [out p hp] at e; cases e
    have hM : L2.Mod K mg (hidT s₁.heap H) := by
      obtain ⟨mc, h1, h2⟩ := lim
      exact ⟨KH, nsH hns, ⟨mb, nsH hb, hbb⟩, mc, nsH h1, h2⟩
    have TB : ∀ p ∈ cs, LamX.TabB (hidT s₁.heap H) mg p.1 p.2 := by
      intro p hp
      have tp := tabs p hp
      refine ⟨?_, ?_, ?_⟩
      · obtain ⟨o, us, file, tf, flags, tg, inF, text, tt, e1, r1, r2, r⟩ := heads p hp
        refine ⟨o, us, file, tf, flags, tg, inF, text, tt, hidT_get e1 (un e1 (fun _ _ z => by rw [r2] at z; cases z) fun z => ?_), r1, r2, r⟩
        rw [r2] at z; cases z
        have r3 := r.1
        simp at r3
      · obtain ⟨b, ob, b1, b2, b3, b4, b5, b6⟩ := bm
        refine ⟨b, ob, b1, b2, fun q => ?_, fun q => ?_, hidT_get b3 (un b3 (fun _ _ z => by rw [b6] at z; cases z) fun z => by rw [b6] at z; cases z), b4, b5, b6⟩
        · obtain ⟨o, es, ep, e, d, _⟩ := hns
          rw [q, e] at b3; cases b3; rw [d] at b6; cases b6
        · rw [q, tp] at b3; cases b3; cases b6
      · intro z
        obtain ⟨o, es, ep, e, d, _⟩ := hns
        rw [z, tp] at e; cases e; cases d
    have e0 : Env0 P w K mg (hidT s₁.heap H) callerA [] s₁ H :=
      ⟨rfl, hM, fun b o e => of_hidT e, Nat.le_of_eq (hidT_size _ _), trivial, fun b m => absurd (show b ∈ ([] : List Addr) from m) List.not_mem_nil, hok, .of_eq hg⟩
    refine codeAny_mono ((F _ KH (nsH hns) TB).go callerA [] s₁ H ⟨[.ref a], []⟩ [.ref a] [.ref a] _ _ rfl hr e0 (bind s₁ (.ref a)) (.cons rfl .nil) (hsp H hO hH hS)) fun r s' h => ?_
    rcases r with e | fl
    · exact (hCX H e s' h).elim
    rcases fl with _ | _ | _ | u
    · exact h.elim
    · exact h.elim
    · exact h.elim
    obtain ⟨v, H', os, bare, unk, hok', r', q⟩ := h
    obtain rfl : v = .bl true := q
    obtain rfl : u = Value.bool true := r'
    have grown : ∀ b ∈ cs.map (·.2), ∃ more : Array Value, s'.heap.get? b = some { cls := .none, data := .fields more } := fun b m => by
      obtain ⟨more, z⟩ := unk.tbls b #[] (hH b m)
      exact ⟨_, hok' b _ z⟩
    have same : ∀ b o, b ∉ cs.map (·.2) → s₁.heap.get? b = some o → s'.heap.get? b = some o := by
      intro b o nb e
      rcases hO b with z | ⟨ob, xs, z⟩ | ⟨z, _⟩
      · exact unk.keep b o e z (fun m => absurd (show b ∈ ([] : List Addr) from m) List.not_mem_nil) List.not_mem_nil
      · obtain ⟨e1, _⟩ := hok b _ z
        obtain ⟨e2, _⟩ := hok' b _ (unk.frzs b ob _ z)
        rw [e] at e1; cases e1
        exact e2
      · exact absurd z nb
    refine ⟨rfl, ⟨fun b o e => ?_, fun b o e => ?_⟩, os, bare⟩
    · by_cases m : b ∈ cs.map (·.2)
      · obtain ⟨more, hm⟩ := grown b m
        rw [at_ b m] at e; cases e
        obtain ⟨p, hp, rfl⟩ := List.mem_map.mp m
        exact .inr (.inl ⟨((heads p hp).tab (tabs p hp)).isCodeTable, rfl, #[], more, rfl, by rw [Array.empty_append]; exact hm⟩)
      · exact .inl (same b o m e)
    · by_cases m : b ∈ cs.map (·.2)
      · obtain ⟨more, hm⟩ := grown b m
        exact ⟨_, hm⟩
      · exact ⟨o, same b o m e⟩
  have rv := vals_ints hi
  match hk : K.lookup a with
  | some o =>
    have e := KX a o hk
    rw [ha] at e; cases e
    refine main (fun b => if b ∈ cs.map (·.2) then some (.tbl #[]) else none) (fun b => ?_) (fun b m => if_pos m) (.inr ⟨_, vs.toArray, _, hk, rfl, rfl, rfl, by rw [List.size_toArray, hi.length]; exact hl, by simpa using rv⟩) (fun b u z => ?_) (fun b z => ?_) (fun z => absurd (if_neg apart) z)
    · by_cases m : b ∈ cs.map (·.2)
      · exact .inr (.inr ⟨m, if_pos m⟩)
      · exact .inl (if_neg m)
    · by_cases m : b ∈ cs.map (·.2)
      · cases (if_pos m).symm.trans z; exact at_ b m
      · cases (if_neg m).symm.trans z
    · by_cases m : b ∈ cs.map (·.2)
      · exact .inr m
      · exact absurd (if_neg m) z
  | none =>
    have ne : ∀ b ∈ cs.map (·.2), b ≠ a := fun b m z => apart (z ▸ m)
    refine main (fun b => if b = a then some (.frz { cls := .type "list", data := .seq vs.toArray } (.lst (ns.map V.int))) else if b ∈ cs.map (·.2) then some (.tbl #[]) else none) (fun b => ?_) (fun b m => (if_neg (ne b m)).trans (if_pos m)) (.inl (.inr ⟨_, if_pos rfl⟩)) (fun b u z => ?_) (fun b z => ?_) fun _ => hk
    · by_cases q : b = a
      · exact .inr (.inl ⟨_, _, if_pos q⟩)
      · by_cases m : b ∈ cs.map (·.2)
        · exact .inr (.inr ⟨m, (if_neg q).trans (if_pos m)⟩)
        · exact .inl ((if_neg q).trans (if_neg m))
    · by_cases q : b = a
      · cases (if_pos q).symm.trans z
        rw [q]
        exact ⟨ha, by rw [List.length_map]; exact hl, vs, _, rv, ha⟩
      · have z1 := (if_neg q).symm.trans z
        by_cases m : b ∈ cs.map (·.2)
        · cases (if_pos m).symm.trans z1; exact at_ b m
        · cases (if_neg m).symm.trans z1
    · by_cases q : b = a
      · exact .inl q
      · by_cases m : b ∈ cs.map (·.2)
        · exact .inr m
        · exact absurd ((if_neg q).trans (if_neg m)) z
/-- the end of the head -/
theorem walk_GT {l : PySem.W.OpenLaw} {n k : Nat} {q : Program} {loose : List Str} {XP : (Str → Option Value) → Heap → Prop} {YP : World → Heap → Prop} {d : DefRec} {CX : CXT} {x : Str}
    (hn : l.most = some n) (hn2 : n ≤ sizeLine) (hdf : d.params.defaults = []) (hr : Room k callerA)
    (F : ∀ (w : World) (mg : Str → Option Value) (fa : Addr) (h : Heap), YP w h → h.Ns mainGlobals mg → mg d.name = some (.ref fa) →
      ∃ (K : PySem.W.Frag) (fd : FuncData) (sp : Sp) (cs : List (Addr × Addr)), K.In h ∧ (∀ p ∈ cs, h.get? p.2 = some { cls := .none, data := .fields #[] }) ∧ (∀ p ∈ cs, K.lookup p.2 = none) ∧ (∀ p ∈ cs, PySem.W.CodeHd h p.1 p.2) ∧ (∀ (s : Shared) (u : Value), BindsTo s fd ⟨[u], []⟩ [(x, u)]) ∧
        (∀ (H : Hp) (a : Addr) (ns : List Int), ns.length ≤ n → OnlyT (cs.map (·.2)) H → (∀ b ∈ cs.map (·.2), H b = some (.tbl #[])) → SqL K H a (ns.map V.int) → sp [.ref a] H (fun v _ => v = .bl true) fun _ _ _ => False) ∧
        ∀ base : Heap, K.In base → base.Ns mainGlobals mg → (∀ p ∈ cs, LamX.TabB base mg p.1 p.2) → FnG l.prog w K mg base CX k fa fd [x] sp)
    (hCX : ∀ (H : Hp) (s : Shared) (e : Value) (s' : Shared), CX [] H s (fun _ _ _ => False) e s' → False) :
    PySem.W.WalkO q loose XP YP l.row.toRowW d [] (fun f vs => PySem.call f vs) := by
  refine Att.attach_callB hn hdf fun w s₀ s₁ mg mb fa o pm cd doc a vs ns G Y ho hd hcd hmg hobj hints hlen _ hg => ?_
  obtain ⟨K, fd, sp, cs, KX, h1, h2, h3, bd, hs, hF⟩ := F w mg fa _ Y G.T.g hmg
  exact law_GT KX G.T.g G.T.b G.T.builtins G.T.nolimit hg h1 h2 h3 G.T.bmain hobj hints (Nat.le_trans hlen hn2) hr hF bd (fun H hO hH hS => hs H a ns hlen hO hH hS) fun H e s' => hCX H s₁ e s'
end Rf
end

section
namespace Rf
open PySem PySem.Spec PyProof.Rows L2

/-! ## the law -/
def cbody : Stmt → List Stmt
  | .ClassDef (body := b) .. => b
  | _ => []
theorem FnG.cx0 {P : Program} {w : World} {K : PySem.W.Frag} {mg : Str → Option Value} {base : Heap} {k : Nat} {f : Addr} {fd : FuncData} {ps : List Str} {sp : Sp} (F : FnG P w K mg base (L2.CX P w) k f fd ps sp) :
    FnG P w K mg base L2.CX0 k f fd ps (fun vs H Q _ => sp vs H Q fun _ _ _ => False) :=
  ⟨fun vs H Q E h => F.ln vs H Q _ h, fun A outer s H args us vs Q E g hr e0 hb r hsp => codeAny_mono (F.go A outer s H args us vs Q _ g hr e0 hb r hsp) fun r s' h => by
    cases r with
    | error e =>
      obtain ⟨_, _, _, _, _, _, _, _, _, _, _, _, hE⟩ := h
      exact hE.elim
    | ok fl => cases fl <;> exact h⟩
/-- what the head tells of a def, and its term -/
structure DefOk (C : Ck) (d : He.DefD) (fi : FI) (x : Str × Option Str) (N ps : List Str) : Prop where
  at_ : d.at_ = x
  dfl : d.dfl = []
  kwd : d.kwd = []
  S : FnScope N ps d.scope
  hb : (∀ (kV doc pm : Value) (an : Option Addr) (cdv ct : Value) (us : List Value), us.length = ps.length → bindArgs (PySem.W.fnOf d.name d.qual d.params d.body d.scope .none kV doc pm an cdv ct) ⟨us, []⟩ = pure (ps.zip us))
  lm : fi.lm = none
  np : ps.length = fi.np
  ns : N.length = fi.ns
  ck : chkB { C with N := N, mkl := decide ((x, d.qual) ∈ C.tf) } d.scope fi.body d.body = true
/-- .. a def to which a lambda is given behind i others -/
structure DefOkV (C : Ck) (d : He.DefD) (fi : FI) (i : Nat) (x : Str × Option Str) (N ps : List Str) : Prop where
  at_ : d.at_ = x
  dfl : d.dfl = []
  kwd : d.kwd = []
  S : FnScope N ps d.scope
  hb : (∀ (kV doc pm : Value) (an : Option Addr) (cdv ct : Value) (us : List Value), us.length = ps.length → bindArgs (PySem.W.fnOf d.name d.qual d.params d.body d.scope .none kV doc pm an cdv ct) ⟨us, []⟩ = pure (ps.zip us))
  np : ps.length = i + 1
  ns : N.length = fi.ns
  ck : chkB { C with N := N, lam := some i, mkl := decide ((x, d.qual) ∈ C.tf) } d.scope fi.body d.body = true
structure ClsI where
  nm : Str
  ci : CI
/-- a class of exceptions: its fields, where its __init__ stands among the defs -/
structure ExI where
  nm : Str
  flds : List String := []
  ini : Nat := 0
structure Pg where
  fns : List FI
  names : List Str
  cls : List ClsI := []
  exs : List ExI := []
  nums : List (Str × Int) := []
  nw : List Nat := []
  snm : List (Str × List Char) := []
  cons : List (Str × List D) := []
  isa : Nat → Nat → Bool := fun _ _ => false
  /-- the defs that make lambdas; those that get one: by name, by class and name; the lambdas -/
  tf : List ((Str × Option Str) × Str) := []
  vnm : List (Nat × Nat × Str) := []
  vmt : List (Nat × Nat × Nat × String) := []
  lams : List (Nat × List Str × List Str × E) := []
def ClsI.fa (k : ClsI) : List He.Fa := .glo k.nm :: .cls k.nm :: k.ci.flds.map (fun f => He.Fa.noat k.nm (Str.ofString f)) ++ k.ci.meths.map (fun p => He.Fa.meth k.nm (Str.ofString p.1)) ++ (if k.ci.ini.isSome then [He.Fa.mkr k.nm] else [])
def Pg.fa0 (p : Pg) : List He.Fa := p.names.map He.Fa.glo ++ bltNames.map He.Fa.free ++ p.cls.flatMap ClsI.fa ++ p.snm.map (fun q => He.Fa.str q.1 (st q.2))
def Pg.fa (p : Pg) : List He.Fa := p.fa0 ++ p.nums.map (fun q => He.Fa.int q.1 q.2) ++ p.exs.map (fun e => He.Fa.glo e.nm) ++ p.cons.map (fun q => He.Fa.glo q.1)
def Pg.exf (p : Pg) (c : Nat) : List String := if c < p.cls.length then [] else match p.exs[c - p.cls.length]? with | some e => e.flds | none => []
def Pg.wd (p : Pg) (ns : List Int) : Wd := ⟨p.fns, p.cls.map (·.ci), p.cons.map (·.2), p.isa, ns, p.exf⟩
def Pg.xc (p : Pg) : List Nat := (List.range p.exs.length).map (p.cls.length + ·)
def Pg.ck0 (p : Pg) : Ck := { N := [], fnm := p.names, cnm := p.cls.map (·.nm) ++ p.exs.map (·.nm), gnm := p.cons.map (·.1), nw := p.nw, snm := p.snm, xc := p.xc, xr := p.xc.filter fun c => !(p.exf c).isEmpty, inm := p.nums, tf := p.tf }
def Pg.lamL (p : Pg) (j : Nat) : Option (List Str × List Str × E) := p.lams.lookup j
def Pg.ck (p : Pg) : Ck := { p.ck0 with vnm := p.vnm, vmt := p.vmt, lms := fun j => (p.lamL j).map fun q => (q.1, q.2.1), lamB := fun j scope body => match p.lamL j with | some q => chkE (p.ck0.plain (q.1 ++ q.2.1)) q.2.2 scope body | none => false }
def Pg.tabs (p : Pg) (K : PySem.W.Frag) : List (Addr × Addr) := p.tf.map fun q => He.cT K q.1
def Pg.mx (p : Pg) (ns : List Int) (K : PySem.W.Frag) (oa : Option Addr) : Mx :=
  ⟨p.wd ns, fun f => (p.names[f]?).map (He.ga K), fun c => ((p.cls.map (·.nm) ++ p.exs.map (·.nm))[c]?).map (He.ga K), fun g => if g < p.cons.length then (p.cons[g]?).map (fun q => He.ga K q.1) else if g = p.cons.length then oa else none, none, none, none, p.tf.map (fun q => ((He.cT K q.1).2, q.2 ++ ".<locals>." ++ "<lambda>")), none, fun _ => none⟩
/-- the constants' objects -/
def Pg.ConsOk0 (p : Pg) (K : PySem.W.Frag) (mg : Str → Option Value) : Prop := ∀ q ∈ p.cons, mg q.1 = some (.ref (He.ga K q.1)) ∧ ∃ vs : List V, (∀ H : Hp, SqT K H (He.ga K q.1) vs) ∧ (∀ (G : Gx) (as : List Addr) (H : Hp), G.K = K → Reps G as H q.2 vs) ∧ q.2.all flat = true
/-- the __init__ of an exception -/
structure ExOk (d : He.DefD) (e : ExI) (N ps : List Str) : Prop where
  at_ : d.at_ = (e.nm, some ("__init__" : Str))
  dfl : d.dfl = []
  kwd : d.kwd = []
  S : FnScope N ps d.scope
  hb : (∀ (kV doc pm : Value) (an : Option Addr) (cdv ct : Value) (us : List Value), us.length = ps.length → bindArgs (PySem.W.fnOf d.name d.qual d.params d.body d.scope .none kV doc pm an cdv ct) ⟨us, []⟩ = pure (ps.zip us))
  nn : N = ps
  ln : ps.length = e.flds.length + 1
  l9 : e.flds.length ≤ 900
  ck : chkI N d.scope 0 e.flds d.body = true
/-- every def, every method has its term -/
structure Pg.Ok (p : Pg) (defs : List He.DefD) : Prop where
  fn : ∀ (f : Nat) (x : Str), p.names[f]? = some x → ∃ (fi : FI) (d : He.DefD) (N ps : List Str), p.fns[f]? = some fi ∧ defs[f]? = some d ∧ DefOk p.ck d fi (x, none) N ps
  mt : ∀ (c : Nat) (k : ClsI), p.cls[c]? = some k → ∀ q ∈ k.ci.meths, ∃ (fi : FI) (d : He.DefD) (N ps : List Str), p.fns[q.2]? = some fi ∧ defs[q.2]? = some d ∧ DefOk p.ck d fi (k.nm, some (Str.ofString q.1)) N ps
  ini : ∀ (c : Nat) (k : ClsI), p.cls[c]? = some k → ∀ f, k.ci.ini = some f → ∃ (fi : FI) (d : He.DefD) (N ps : List Str), p.fns[f]? = some fi ∧ defs[f]? = some d ∧ DefOk p.ck d fi (k.nm, some ("__init__" : Str)) N ps
  nw : ∀ c ∈ p.nw, ∃ k f, p.cls[c]? = some k ∧ k.ci.ini = some f
  vfn : ∀ v j x, (v, j, x) ∈ p.vnm → x ∈ p.names ∧ ∃ (fi : FI) (k : Nat) (d : He.DefD) (N ps : List Str) (i : Nat), p.fns[v]? = some fi ∧ defs[k]? = some d ∧ DefOkV p.ck d fi i (x, none) N ps ∧ ∀ q, p.lamL j = some q → fi.lm = some (i, j, q.1.length) ∧ fi.np = i + q.1.length
  vmt : ∀ v j c m, (v, j, c, m) ∈ p.vmt → ∃ (k : ClsI) (idx : Nat) (fi : FI) (kd : Nat) (d : He.DefD) (N ps : List Str) (i : Nat), p.cls[c]? = some k ∧ (m, idx) ∈ k.ci.meths ∧ p.fns[v]? = some fi ∧ defs[kd]? = some d ∧ DefOkV p.ck d fi i (k.nm, some (Str.ofString m)) N ps ∧ ∀ q, p.lamL j = some q → fi.lm = some (i, j, q.1.length) ∧ fi.np = i + q.1.length
  lam : ∀ j q, (j, q) ∈ p.lams → p.fns[j]? = some ⟨q.1.length + q.2.1.length, q.1.length + q.2.1.length, [.ret q.2.2], none⟩
  ex : ∀ e ∈ p.exs, e.flds ≠ [] → ∃ (d : He.DefD) (N ps : List Str), defs[e.ini]? = some d ∧ ExOk d e N ps
/-- constants of the module -/
def dvOf : D → He.Dv
  | .bl b => .bl b
  | .int i => .int i
  | .str s => .str (st s)
  | _ => .non
def leafD : D → Bool
  | .non => true
  | .bl _ => true
  | .int _ => true
  | .str _ => true
  | _ => false
/-- an own class over ValueError, with its own dict -/
def oexB (K : PySem.W.Frag) (C : Addr) : Bool :=
  (match K.lookup C with
    | some ⟨.type t, _, .cls cd, sl⟩ => decide (t = "type") && decide (cd.hasDel = false) && decide (cd.hasDict = true) && (match cd.mro with
      | .ref C' :: bm => decide (C' = C) && PySem.HandSPX.refsVE bm
      | _ => false) && (match sl.toList with
      | [_, _, _, _, some (.builtin nw), _] => decide (nw = "ValueError.__new__")
      | _ => false)
    | _ => false) && He.eqO (PySem.W.findIn K (.ref C) "__setattr__") (some (some (.builtin "object.__setattr__"))) && decide (PySem.W.subIn K (.ref C) (.type "BaseException") = some true) && decide (PySem.W.typeIn K (.ref C) = some (.type "type")) && PySem.W.keepIn K (.ref C)
theorem oexB_ok {K : PySem.W.Frag} {C : Addr} (q : oexB K C = true) : OexC K C := by
  simp only [oexB, Bool.and_eq_true, decide_eq_true_eq] at q
  obtain ⟨⟨⟨⟨q1, q2⟩, q3⟩, q4⟩, q5⟩ := q
  refine ⟨?_, He.eqO_ok q2, q3, q4, q5⟩
  split at q1
  · rename_i t dd cd sl e
    simp only [Bool.and_eq_true, decide_eq_true_eq] at q1
    obtain ⟨⟨⟨⟨rfl, g1⟩, g2⟩, g3⟩, g4⟩ := q1
    split at g3
    · rename_i C' bm em
      simp only [Bool.and_eq_true, decide_eq_true_eq] at g3
      obtain ⟨rfl, g3⟩ := g3
      split at g4
      · rename_i k0 k1 k2 k3 nw k5 es
        have g4' := of_decide_eq_true g4
        subst g4'
        obtain ⟨nm, bs, mro, ns, qn, hd, sn, sub, ab, col, dl⟩ := cd
        simp only at g1 g2 em
        subst g1 g2 em
        obtain ⟨sl⟩ := sl
        simp only at es
        subst es
        exact ⟨nm, qn, ns, bs, bm, sn, sub, ab, col, dd, k0, k1, k2, k3, k5, e, g3⟩
      · cases g4
    · cases g3
  · cases q1
def exiB (K : PySem.W.Frag) (e : ExI) : Bool := e.flds.isEmpty || (xfB K (He.ga K e.nm) && (e.flds.all fun f => He.eqO (PySem.W.findIn K (.ref (He.ga K e.nm)) (Str.ofString f)) (some none)) && oexB K (He.ga K e.nm) &&
  He.eqO (PySem.W.findIn K (.ref (He.ga K e.nm)) "__init__") (some (some (.ref (He.fAd K (e.nm, some ("__init__" : Str)))))) && decide (PySem.W.typeIn K (.ref (He.fAd K (e.nm, some ("__init__" : Str)))) = some (.type "function")))
def nodupB : List Addr → Bool
  | [] => true
  | a :: r => !r.contains a && nodupB r
theorem nodupB_ok {α : Type} {f : α → Addr} : ∀ {l : List α}, nodupB (l.map f) = true → ∀ x ∈ l, ∀ y ∈ l, f x = f y → x = y
  | a :: r, h, x, hx, y, hy, e => by
    simp only [List.map_cons, nodupB, Bool.and_eq_true, Bool.not_eq_true', List.contains_eq_mem, decide_eq_false_iff_not] at h
    rcases List.mem_cons.mp hx with hx1 | hx1
    · rcases List.mem_cons.mp hy with hy1 | hy1
      · rw [hx1, hy1]
      · exact absurd (List.mem_map.mpr ⟨y, hy1, by rw [← hx1, e]⟩) h.1
    · rcases List.mem_cons.mp hy with hy1 | hy1
      · exact absurd (List.mem_map.mpr ⟨x, hx1, by rw [← hy1, e]⟩) h.1
      · exact nodupB_ok h.2 x hx1 y hy1 e
def Pg.exB (p : Pg) (K : PySem.W.Frag) : Bool := nodupB (p.tf.map fun q => (He.cT K q.1).2) && (
  (p.cons.all fun q => He.tupB K q.1 (q.2.map dvOf) && q.2.all leafD) && (p.exs.all (exiB K)) &&
  (List.range p.exs.length).all fun i => match p.exs[i]? with
    | some e => e.flds.isEmpty || (List.range p.exs.length).all fun j => match p.exs[j]? with
      | some k => decide (PySem.W.exmOne K (.ref (He.ga K e.nm)) (.ref (He.ga K k.nm)) = some (p.isa (p.cls.length + i) (p.cls.length + j)))
      | none => true
    | none => true)
section
variable {P : Program} {w : World} {K : PySem.W.Frag} {mg : Str → Option Value} {base h : Heap} {C : Ck} {L : Nat} {fa : List He.Fa} {defs : List He.DefD} {p : Pg}
theorem DefOk.fnf {d : He.DefD} {fi : FI} {x : Str × Option Str} {N ps : List Str} {i : Nat} (D : DefOk C d fi x N ps) (c : He.SaysD fa defs K) (e : defs[i]? = some d) : PySem.W.keepIn K (.ref (He.fAd K x)) = true ∧ Nonempty (FnF K C fi (He.fAd K x)) := by
  obtain ⟨fd, F⟩ := c.def_ i (d := d) e
  have e1 : d.dvs K = [] := by unfold He.DefD.dvs; rw [D.dfl]; rfl
  have e2 : d.kws K = [] := by unfold He.DefD.kws; rw [D.kwd]; rfl
  rw [e1, e2, D.at_] at F
  exact ⟨F.kp, ⟨⟨d.name, d.qual, d.params, d.body, d.scope, N, ps, fd, _, F, D.S, F.bindsN D.hb, D.lm, D.np, D.ns, fun h => ⟨x, rfl, of_decide_eq_true h⟩, D.ck⟩⟩⟩
theorem DefOkV.fnf {d : He.DefD} {fi : FI} {n : Nat} {x : Str × Option Str} {N ps : List Str} {i : Nat} (D : DefOkV C d fi n x N ps) (c : He.SaysD fa defs K) (e : defs[i]? = some d) : PySem.W.keepIn K (.ref (He.fAd K x)) = true ∧ Nonempty (FnFV K C fi (He.fAd K x) n) := by
  obtain ⟨fd, F⟩ := c.def_ i (d := d) e
  have e1 : d.dvs K = [] := by unfold He.DefD.dvs; rw [D.dfl]; rfl
  have e2 : d.kws K = [] := by unfold He.DefD.kws; rw [D.kwd]; rfl
  rw [e1, e2, D.at_] at F
  exact ⟨F.kp, ⟨⟨d.name, d.qual, d.params, d.body, d.scope, N, ps, fd, _, F, D.S, F.bindsN D.hb, D.np, D.ns, fun h => ⟨x, rfl, of_decide_eq_true h⟩, D.ck⟩⟩⟩
theorem fact_in (c : He.SaysD fa defs K) {f : He.Fa} (h : f ∈ fa) : f.ok K = true := by
  obtain ⟨i, e⟩ := List.getElem?_of_mem h
  exact c.fact i e
theorem fa0_in {f : He.Fa} (h : f ∈ p.fa0) : f ∈ p.fa := List.mem_append_left _ (List.mem_append_left _ (List.mem_append_left _ h))
theorem fa_cls {k : ClsI} {f : He.Fa} (hk : k ∈ p.cls) (h : f ∈ k.fa) : f ∈ p.fa := by
  refine fa0_in ?_
  unfold Pg.fa0
  exact List.mem_append_left _ (List.mem_append_right _ (List.mem_flatMap.mpr ⟨k, hk, h⟩))
theorem lookup_mem' {m : String} {f : Nat} : ∀ {l : List (String × Nat)}, l.lookup m = some f → (m, f) ∈ l
  | [], h => by cases h
  | (a, b) :: r, h => by
    rw [List.lookup_cons] at h
    split at h
    · rename_i e
      obtain rfl := eq_of_beq e
      cases h; exact List.mem_cons_self ..
    · exact List.mem_cons_of_mem _ (lookup_mem' h)
theorem lookup_memN {β : Type} {m : Nat} {f : β} : ∀ {l : List (Nat × β)}, l.lookup m = some f → (m, f) ∈ l
  | [], h => by cases h
  | (a, b) :: r, h => by
    rw [List.lookup_cons] at h
    split at h
    · rename_i e
      obtain rfl := eq_of_beq e
      cases h; exact List.mem_cons_self ..
    · exact List.mem_cons_of_mem _ (lookup_memN h)
theorem leaf_rep {G : Gx} {as : List Addr} {H : Hp} : ∀ {ds : List D}, ds.all leafD = true → Reps G as H ds ((ds.map dvOf).map (He.Dv.v G.K)) ∧ ds.all flat = true
  | [], _ => ⟨by simp [Reps], rfl⟩
  | d :: ds, h => by
    simp only [List.all_cons, Bool.and_eq_true] at h
    obtain ⟨h1, h2⟩ := leaf_rep (ds := ds) h.2
    simp only [List.map_cons, List.all_cons, h2, Bool.and_true]
    have h0 := h.1
    cases d <;> first | (simp [leafD] at h0; done) | exact ⟨by simp only [Reps]; exact ⟨_, _, rfl, by simp only [Rep]; rfl, h1⟩, rfl⟩
theorem consOk (X : K.In h) (G : h.Ns mainGlobals mg) (c : He.SaysD p.fa defs K) (hx : p.exB K = true) : p.ConsOk0 K mg := by
  intro q hq
  unfold Pg.exB at hx
  rw [Bool.and_eq_true] at hx
  replace hx := hx.2
  simp only [Bool.and_eq_true] at hx
  have h1 := List.all_eq_true.mp hx.1.1 q hq
  simp only [Bool.and_eq_true] at h1
  refine ⟨He.glo_ok X G (fact_in c (List.mem_append_right _ (List.mem_map_of_mem (f := fun q : Str × List D => He.Fa.glo q.1) hq))), _, He.tupB_ok h1.1, fun G as H e => ?_, (leaf_rep (G := ⟨⟨[], [], [], fun _ _ => false, [], fun _ => []⟩, K, fun _ => none, fun _ => none, fun _ => none, none, none, [], none⟩) (as := []) (H := fun _ => none) h1.2).2⟩
  subst e
  exact (leaf_rep h1.2).1
theorem exs_at {c : Nat} {x : Str} (hc : c ∈ p.xc) (e : (p.cls.map (·.nm) ++ p.exs.map (·.nm))[c]? = some x) : ∃ i k, c = p.cls.length + i ∧ i < p.exs.length ∧ p.exs[i]? = some k ∧ x = k.nm ∧ p.exf c = k.flds := by
  unfold Pg.xc at hc
  obtain ⟨i, hi, rfl⟩ := List.mem_map.mp hc
  rw [List.mem_range] at hi
  rw [List.getElem?_append_right (by simp), List.getElem?_map, List.length_map, show p.cls.length + i - p.cls.length = i by omega] at e
  obtain ⟨k, ek, rfl⟩ := Option.map_eq_some_iff.mp e
  refine ⟨i, k, rfl, hi, ek, rfl, ?_⟩
  unfold Pg.exf
  rw [if_neg (by omega), show p.cls.length + i - p.cls.length = i by omega, ek]
theorem exf_at {c : Nat} (h : 0 < (p.exf c).length) : ∃ i k, c = p.cls.length + i ∧ i < p.exs.length ∧ p.exs[i]? = some k ∧ k.flds = p.exf c := by
  unfold Pg.exf at h ⊢
  by_cases hc : c < p.cls.length
  · rw [if_pos hc] at h; simp at h
  · rw [if_neg hc] at h ⊢
    cases e : p.exs[c - p.cls.length]? with
    | none => rw [e] at h; simp at h
    | some k => exact ⟨c - p.cls.length, k, by omega, (List.getElem?_eq_some_iff.mp e).1, e, rfl⟩
theorem ca_at {ns : List Int} {oa : Option Addr} {i : Nat} {k : ExI} (ek : p.exs[i]? = some k) : (p.mx ns K oa).ca (p.cls.length + i) = some (He.ga K k.nm) := by
  show ((p.cls.map (·.nm) ++ p.exs.map (·.nm))[p.cls.length + i]?).map (He.ga K) = _
  rw [List.getElem?_append_right (by simp), List.getElem?_map, List.length_map, show p.cls.length + i - p.cls.length = i by omega, ek]; rfl
theorem exi_ok {e : ExI} (hx : p.exB K = true) (he : e ∈ p.exs) (hf : e.flds ≠ []) : XfC K (He.ga K e.nm) ∧ (∀ f ∈ e.flds, PySem.W.findIn K (.ref (He.ga K e.nm)) (Str.ofString f) = some none) ∧ OexC K (He.ga K e.nm) ∧
    PySem.W.findIn K (.ref (He.ga K e.nm)) "__init__" = some (some (.ref (He.fAd K (e.nm, some ("__init__" : Str))))) ∧ PySem.W.typeIn K (.ref (He.fAd K (e.nm, some ("__init__" : Str)))) = some (.type "function") := by
  unfold Pg.exB at hx
  rw [Bool.and_eq_true] at hx
  replace hx := hx.2
  simp only [Bool.and_eq_true] at hx
  have h1 := List.all_eq_true.mp hx.1.2 e he
  unfold exiB at h1
  have hne : e.flds.isEmpty = false := by simpa using hf
  simp only [hne, Bool.false_or, Bool.and_eq_true, decide_eq_true_eq, List.all_eq_true] at h1
  obtain ⟨⟨⟨⟨g1, g2⟩, g3⟩, g4⟩, g5⟩ := h1
  exact ⟨xfB_ok g1, fun f hf => He.eqO_ok (g2 f hf), oexB_ok g3, He.eqO_ok g4, g5⟩
theorem factsP (X : K.In h) (G : h.Ns mainGlobals mg) (c : He.SaysD p.fa defs K) (hd : p.Ok defs) (hx : p.exB K = true)
    {ns : List Int} {oa : Option Addr} (ho : ∀ a, oa = some a → ∀ H : Hp, SqL K H a (ns.map V.int)) (TB : ∀ t ∈ p.tabs K, LamX.TabB base mg t.1 t.2) : Facts P w K mg base (p.mx ns K oa) p.ck where
  fn := fun f a e => by
    simp only [Pg.mx, Option.map_eq_some_iff] at e
    obtain ⟨x, ex, rfl⟩ := e
    obtain ⟨fi, d, N, ps, e1, e2, D⟩ := hd.fn f x ex
    obtain ⟨kp, F⟩ := D.fnf c e2
    exact ⟨kp, fi, e1, F⟩
  nm := fun f x e => by
    refine ⟨He.ga K x, He.glo_ok X G (fact_in c ?_), by show (p.names[f]?).map (He.ga K) = _; rw [show p.names[f]? = some x from e]; rfl⟩
    refine fa0_in ?_
    unfold Pg.fa0
    exact List.mem_append_left _ (List.mem_append_left _ (List.mem_append_left _ (List.mem_map_of_mem (List.mem_of_getElem? e))))
  con := fun g ys a e1 e2 => by
    have e1' : (p.cons.map (·.2))[g]? = some ys := e1
    rw [List.getElem?_map, Option.map_eq_some_iff] at e1'
    obtain ⟨q, eq, rfl⟩ := e1'
    have hg : g < p.cons.length := (List.getElem?_eq_some_iff.mp eq).1
    simp only [Pg.mx, if_pos hg, eq, Option.map_some, Option.some.injEq] at e2
    subst e2
    obtain ⟨_, vs, k1, k2, k3⟩ := consOk X G c hx q (List.mem_of_getElem? eq)
    exact ⟨vs, fun H as => ⟨k1 H, k2 _ as H rfl⟩, k3⟩
  scr := fun a e H => by
    have e' : (if (p.cons.map (·.2)).length < p.cons.length then (p.cons[(p.cons.map (·.2)).length]?).map (fun q => He.ga K q.1) else if (p.cons.map (·.2)).length = p.cons.length then oa else none) = some a := e
    rw [List.length_map, if_neg (Nat.lt_irrefl _), if_pos rfl] at e'
    exact ho a e' H
  glb := fun g x e => by
    have e' : (p.cons.map (·.1))[g]? = some x := e
    rw [List.getElem?_map, Option.map_eq_some_iff] at e'
    obtain ⟨q, eq, rfl⟩ := e'
    have hg : g < p.cons.length := (List.getElem?_eq_some_iff.mp eq).1
    exact ⟨He.ga K q.1, (consOk X G c hx q (List.mem_of_getElem? eq)).1, by simp only [Pg.mx, if_pos hg, eq, Option.map_some]⟩
  cls := fun cc ci e Ca eC => by
    have e' : (p.cls.map (·.ci))[cc]? = some ci := e
    rw [List.getElem?_map, Option.map_eq_some_iff] at e'
    obtain ⟨k, ek, rfl⟩ := e'
    have hk := List.mem_of_getElem? ek
    have hl : cc < (p.cls.map (·.nm)).length := by rw [List.length_map]; exact (List.getElem?_eq_some_iff.mp ek).1
    simp only [Pg.mx] at eC
    rw [List.getElem?_append_left hl, List.getElem?_map, ek] at eC
    cases eC
    refine ⟨He.cls_ok (fact_in c (fa_cls hk ?_)), fun f hf => He.noat_ok (fact_in c (fa_cls hk ?_)), fun m f em => ?_⟩
    · exact List.mem_append_left _ (List.mem_append_left _ (List.mem_cons_of_mem _ (List.mem_cons_self ..)))
    · exact List.mem_append_left _ (List.mem_append_left _ (List.mem_cons_of_mem _ (List.mem_cons_of_mem _ (List.mem_map_of_mem hf))))
    · have hm := lookup_mem' em
      obtain ⟨fi, d, N, ps, e1, e2, D⟩ := hd.mt cc k ek _ hm
      refine ⟨_, fi, He.meth_ok (fact_in c (fa_cls hk ?_)), e1, (D.fnf c e2).2⟩
      exact List.mem_append_left _ (List.mem_append_right _ (List.mem_map_of_mem (f := fun p => He.Fa.meth k.nm (Str.ofString p.1)) hm))
  mks := fun cc x h1 h2 => by
    obtain ⟨k, f, ek, ei⟩ := hd.nw cc h1
    have hk := List.mem_of_getElem? ek
    have hl : cc < (p.cls.map (·.nm)).length := by rw [List.length_map]; exact (List.getElem?_eq_some_iff.mp ek).1
    have h2' : (p.cls.map (·.nm) ++ p.exs.map (·.nm))[cc]? = some x := h2
    rw [List.getElem?_append_left hl, List.getElem?_map, ek] at h2'
    cases h2'
    obtain ⟨fi, d, N, ps, e1, e2, D⟩ := hd.ini cc k ek f ei
    refine ⟨k.ci, f, He.ga K k.nm, _, fi, ?_, ei, ?_, He.glo_ok X G (fact_in c (fa_cls hk ?_)), He.mkr_ok (fact_in c (fa_cls hk ?_)), e1, (D.fnf c e2).2⟩
    · show (p.cls.map (·.ci))[cc]? = _
      rw [List.getElem?_map, ek]; rfl
    · show ((p.cls.map (·.nm) ++ p.exs.map (·.nm))[cc]?).map (He.ga K) = _
      rw [List.getElem?_append_left hl, List.getElem?_map, ek]; rfl
    · exact List.mem_append_left _ (List.mem_append_left _ (List.mem_cons_self ..))
    · refine List.mem_append_right _ ?_
      rw [ei]; exact List.mem_cons_self ..
  exs := fun cc x h1 h2 => by
    obtain ⟨h1, h1'⟩ := List.mem_filter.mp h1
    obtain ⟨i, k, rfl, hi, ek, rfl, ef⟩ := exs_at h1 h2
    have hk := List.mem_of_getElem? ek
    have hf : k.flds ≠ [] := by rw [← ef]; simpa using h1'
    obtain ⟨q1, q2, q3, q4, q5⟩ := exi_ok hx hk hf
    obtain ⟨d, N, ps, ed, D⟩ := hd.ex k hk hf
    obtain ⟨fd, F⟩ := c.def_ k.ini (d := d) ed
    have e1 : d.dvs K = [] := by unfold He.DefD.dvs; rw [D.dfl]; rfl
    have e2 : d.kws K = [] := by unfold He.DefD.kws; rw [D.kwd]; rfl
    rw [e1, e2, D.at_] at F
    refine ⟨He.ga K k.nm, _, fd, ps, ca_at ek, He.glo_ok X G (fact_in c ?_), q3, q4, q5, ?_, F.bindsN D.hb⟩
    · exact List.mem_append_left _ (List.mem_append_right _ (List.mem_map_of_mem (f := fun e : ExI => He.Fa.glo e.nm) hk))
    · show FnOk P w K mg base CX0 1 _ fd ps (spX _ (p.exf _))
      rw [ef]
      exact init_ok F D.S q3 (by cases h : k.flds with | nil => exact absurd h hf | cons _ _ => simp) D.l9 D.ck D.ln D.nn q2
  exm := by
    refine ⟨fun kk x h1 h2 => ?_, fun cc kk Ca Ka h1 h2 g1 g2 => ?_, fun cc Ca h1 g1 => ?_⟩
    · obtain ⟨i, k, rfl, hi, ek, rfl, ef⟩ := exs_at h1 h2
      exact ⟨_, ca_at ek, He.glo_ok X G (fact_in c (List.mem_append_left _ (List.mem_append_right _ (List.mem_map_of_mem (f := fun e : ExI => He.Fa.glo e.nm) (List.mem_of_getElem? ek)))))⟩
    · obtain ⟨i, e, rfl, hi, ee, ef⟩ := exf_at h1
      have h2' : kk ∈ p.xc := h2
      unfold Pg.xc at h2'
      obtain ⟨j, hj, rfl⟩ := List.mem_map.mp h2'
      rw [List.mem_range] at hj
      obtain ⟨k, ek⟩ : ∃ k, p.exs[j]? = some k := ⟨p.exs[j], by simp [hj]⟩
      rw [ca_at ee] at g1; rw [ca_at ek] at g2
      cases g1; cases g2
      unfold Pg.exB at hx
      rw [Bool.and_eq_true] at hx
      replace hx := hx.2
      simp only [Bool.and_eq_true] at hx
      have z1 := List.all_eq_true.mp hx.2 i (List.mem_range.mpr hi)
      rw [ee] at z1
      have hne : e.flds.isEmpty = false := by rw [ef]; cases q : p.exf (p.cls.length + i) with | nil => rw [show (p.mx ns K oa).W.exf = p.exf from rfl, q] at h1; simp at h1 | cons _ _ => rfl
      simp only [hne, Bool.false_or] at z1
      have z2 := List.all_eq_true.mp z1 j (List.mem_range.mpr hj)
      rw [ek] at z2
      exact of_decide_eq_true z2
    · obtain ⟨i, e, rfl, hi, ee, ef⟩ := exf_at h1
      rw [ca_at ee] at g1
      cases g1
      have hf : e.flds ≠ [] := fun q => by rw [ef] at q; rw [show (p.mx ns K oa).W.exf = p.exf from rfl, q] at h1; simp at h1
      obtain ⟨q1, q2, _⟩ := exi_ok hx (List.mem_of_getElem? ee) hf
      refine ⟨q1, fun f hff => q2 f ?_⟩
      rw [ef]; exact hff
  vfn := fun v j x h => by
    obtain ⟨hx, fi, k, d, N, ps, i, e1, e2, D, hl⟩ := hd.vfn v j x h
    obtain ⟨kp, F⟩ := D.fnf c e2
    refine ⟨_, He.glo_ok X G (fact_in c ?_), kp, fi, i, e1, fun capN ps' el => ?_, F⟩
    · refine fa0_in ?_
      unfold Pg.fa0
      exact List.mem_append_left _ (List.mem_append_left _ (List.mem_append_left _ (List.mem_map_of_mem hx)))
    · have el' : (p.lamL j).map (fun q => (q.1, q.2.1)) = some (capN, ps') := el
      obtain ⟨q, e3, e4⟩ := Option.map_eq_some_iff.mp el'
      cases e4
      exact hl q e3
  vmt := fun v j cc m h => by
    obtain ⟨k, idx, fi, kd, d, N, ps, i, ek, hm, e1, e2, D, hl⟩ := hd.vmt v j cc m h
    have hk := List.mem_of_getElem? ek
    refine ⟨k.ci, by show (p.cls.map (·.ci))[cc]? = _; rw [List.getElem?_map, ek]; rfl, fun Ca eC => ?_⟩
    have hlc : cc < (p.cls.map (·.nm)).length := by rw [List.length_map]; exact (List.getElem?_eq_some_iff.mp ek).1
    simp only [Pg.mx] at eC
    rw [List.getElem?_append_left hlc, List.getElem?_map, ek] at eC
    cases eC
    obtain ⟨kp, F⟩ := D.fnf c e2
    refine ⟨_, He.meth_ok (fact_in c (fa_cls hk ?_)), fi, i, e1, fun capN ps' el => ?_, F⟩
    · exact List.mem_append_left _ (List.mem_append_right _ (List.mem_map_of_mem (f := fun p => He.Fa.meth k.nm (Str.ofString p.1)) hm))
    · have el' : (p.lamL j).map (fun q => (q.1, q.2.1)) = some (capN, ps') := el
      obtain ⟨q, e3, e4⟩ := Option.map_eq_some_iff.mp el'
      cases e4
      exact hl q e3
  lam := fun j capN ps el => by
    have el' : (p.lamL j).map (fun q => (q.1, q.2.1)) = some (capN, ps) := el
    obtain ⟨q, e3, e4⟩ := Option.map_eq_some_iff.mp el'
    cases e4
    refine ⟨q.2.2, hd.lam j q (lookup_memN e3), fun scope body hB => ?_⟩
    have hB' : (match p.lamL j with | some q => chkE (p.ck0.plain (q.1 ++ q.2.1)) q.2.2 scope body | none => false) = true := hB
    rw [e3] at hB'
    exact hB'
  tab := fun q ql h => by
    have hx' := hx
    unfold Pg.exB at hx'
    rw [Bool.and_eq_true] at hx'
    refine ⟨TB _ (List.mem_map.mpr ⟨(q, ql), h, rfl⟩), List.mem_map.mpr ⟨(q, ql), h, rfl⟩, fun t ht e => ?_⟩
    obtain ⟨z, hz, rfl⟩ := List.mem_map.mp ht
    have := nodupB_ok (f := fun q : (Str × Option Str) × Str => (He.cT K q.1).2) hx'.1 z hz (q, ql) h e
    rw [this]
  hot := rfl
  nlm := rfl
  nmk := rfl
  nlc := rfl
  nex := rfl
  nxd := rfl
  ncx := rfl
  gi := fun g x i e => He.int_ok X G (fact_in c (List.mem_append_left _ (List.mem_append_left _ (List.mem_append_right _ (List.mem_map_of_mem (f := fun q : Str × Int => He.Fa.int q.1 q.2) (List.mem_of_getElem? e))))))
  bl := fun x hx => He.free_ok X G (fact_in c (by
    refine fa0_in ?_
    unfold Pg.fa0
    exact List.mem_append_left _ (List.mem_append_left _ (List.mem_append_right _ (List.mem_map_of_mem hx)))))
  gs := fun g x s e => He.str_ok X G (fact_in c (by
    refine fa0_in ?_
    unfold Pg.fa0
    exact List.mem_append_right _ (List.mem_map_of_mem (f := fun q : Str × List Char => He.Fa.str q.1 (st q.2)) (List.mem_of_getElem? e))))
/-- the law's def: whatever the script's object is -/
def spL (p : Pg) (K : PySem.W.Frag) (L n f : Nat) : Sp := fun vs H Q E => ∃ (ns : List Int) (oa : Option Addr), (∀ a, oa = some a → ∀ H : Hp, SqL K H a (ns.map V.int)) ∧ spI (p.mx ns K oa) K (callF (p.wd ns) L n) 1 f vs H Q fun _ _ _ => False
theorem law_ok {n f : Nat} {fi : FI} {d : He.DefD} {x : Str} (X : K.In h) (G : h.Ns mainGlobals mg) (c : He.SaysD p.fa defs K) (hd : p.Ok defs) (hx : p.exB K = true)
    {N : List Str} (ef : p.fns[f]? = some fi) (ed : defs[f]? = some d) (D : DefOk p.ck d fi (x, none) N [("script" : Str)]) :
    ∃ fd : FuncData, (∀ (s : Shared) (v : Value), BindsTo s fd ⟨[v], []⟩ [(("script" : Str), v)]) ∧ ∀ base : Heap, K.In base → base.Ns mainGlobals mg → (∀ t ∈ p.tabs K, LamX.TabB base mg t.1 t.2) → FnG P w K mg base L2.CX0 (2 * n + 1) (He.ga K x) fd [("script" : Str)] (spL p K L n f) := by
  obtain ⟨fd, F⟩ := c.def_ f (d := d) ed
  have e1 : d.dvs K = [] := by unfold He.DefD.dvs; rw [D.dfl]; rfl
  have e2 : d.kws K = [] := by unfold He.DefD.kws; rw [D.kwd]; rfl
  rw [e1, e2, D.at_] at F
  refine ⟨fd, fun s v => FunD.bindsA F D.hb s [v] rfl, fun base _ _ TB => ?_⟩
  have go : ∀ (ns : List Int) (oa : Option Addr), (∀ a, oa = some a → ∀ H : Hp, SqL K H a (ns.map V.int)) → FnG P w K mg base L2.CX0 (2 * n + 1) (He.ga K x) fd [("script" : Str)] (fun vs H Q _ => spI (p.mx ns K oa) K (callF (p.wd ns) L n) 1 f vs H Q fun _ _ _ => False) := fun ns oa ho => by
    have Fx : Facts P w K mg base (p.mx ns K oa) p.ck := factsP X G c hd hx ho TB
    have q := fnOk (L := L) Fx n f (He.ga K x) fi ef ⟨d.name, d.qual, d.params, d.body, d.scope, N, [("script" : Str)], fd, _, F, D.S, F.bindsN D.hb, D.lm, D.np, D.ns, fun h => ⟨(x, none), rfl, of_decide_eq_true h⟩, D.ck⟩
    rw [← D.np] at q
    exact FnG.cx0 q
  refine ⟨fun vs H Q E ⟨ns, oa, ho, q⟩ => (go ns oa ho).ln vs H Q E q, fun A outer s H args us vs Q E g hr e0 hb r ⟨ns, oa, ho, q⟩ => (go ns oa ho).go A outer s H args us vs Q E g hr e0 hb r q⟩
/-- the start: the script is known to the object, or it is an object of the module -/
theorem sp_start {n f : Nat} {H : Hp} {a : Addr} {ns : List Int} (hO : OnlyT ((p.tabs K).map (·.2)) H) (hH : ∀ b ∈ (p.tabs K).map (·.2), H b = some (.tbl #[])) (hS : SqL K H a (ns.map V.int))
    (hr : ∀ (d : D) (h : Hs), (d = .ob 0 ∧ h = [.scr ns]) ∨ (d = .con p.cons.length ∧ h = []) → ∃ h', callF (p.wd ns) L n f [d] h = .ok (.bl true) h') : spL p K L n f [.ref a] H (fun v _ => v = .bl true) fun _ _ _ => False := by
  have tbs : ∀ oa, LamX.Tabs ((p.mx ns K oa).g K).tb H := fun oa t ht => by
    obtain ⟨q, hq, rfl⟩ := List.mem_map.mp (show t ∈ p.tf.map _ from ht)
    exact LamX.TabS.nil (hH _ (List.mem_map.mpr ⟨He.cT K q.1, List.mem_map.mpr ⟨q, hq, rfl⟩, rfl⟩))
  rcases hS with hS | hK
  · obtain ⟨o, e⟩ : ∃ o, H a = some (.frz o (.lst (ns.map V.int))) := by
      rcases hS with e | e
      · rcases hO a with q | ⟨o, xs, q⟩ | ⟨_, q⟩
        · rw [e] at q; cases q
        · rw [e] at q; cases q
        · rw [e] at q; cases q
      · exact e
    obtain ⟨h', eh⟩ := hr (.ob 0) [.scr ns] (.inl ⟨rfl, rfl⟩)
    refine ⟨ns, none, (fun a q => by cases q), rfl, [.ob 0], [.scr ns], [a], ⟨⟨(fun _ _ q => by cases q), (fun _ _ _ q => by cases q)⟩, tbs _, rfl, (by simp), fun n mo b e1 e2 => ?_⟩, ?_, ?_⟩
    · cases n with
      | zero => simp at e1 e2; subst e1 e2; exact ⟨o, e⟩
      | succ n => simp at e1
    · simp only [Reps]
      exact ⟨_, _, rfl, by simp only [Rep]; exact ⟨a, rfl, rfl⟩, rfl⟩
    · rw [eh]
      intro v as' H' _ _ r
      simpa only [Rep] using r
  · obtain ⟨h', eh⟩ := hr (.con p.cons.length) [] (.inr ⟨rfl, rfl⟩)
    refine ⟨ns, some a, (fun b q H => by cases q; exact .inr hK), rfl, [.con p.cons.length], [], [], ⟨⟨(fun _ _ q => by cases q), (fun _ _ _ q => by cases q)⟩, tbs _, rfl, (by simp), (fun n mo b e1 e2 => by simp at e1)⟩, ?_, ?_⟩
    · simp only [Reps]
      refine ⟨_, _, rfl, ?_, rfl⟩
      simp only [Rep]
      refine ⟨a, rfl, ?_⟩
      show (if p.cons.length < p.cons.length then _ else if p.cons.length = p.cons.length then some a else none) = some a
      rw [if_neg (Nat.lt_irrefl _), if_pos rfl]
    · rw [eh]
      intro v as' H' _ _ r
      simpa only [Rep] using r
/-- a law from its facts -/
theorem facts {n f : Nat} {fi : FI} {d : He.DefD} (hd : p.Ok defs) {N : List Str} (ef : p.fns[f]? = some fi) (en : p.names[f]? = some ("law" : Str)) (ed : defs[f]? = some d) (Dk : DefOk p.ck d fi (("law" : Str), none) N [("script" : Str)])
    (hrun : ∀ (ns : List Int) (d : D) (h : Hs), ns.length ≤ 63 → (d = .ob 0 ∧ h = [.scr ns]) ∨ (d = .con p.cons.length ∧ h = []) → ∃ h', callF (p.wd ns) L n f [d] h = .ok (.bl true) h')
    {fa : Addr} (X : K.In h) (G : h.Ns mainGlobals mg) (hfa : mg ("law" : Str) = some (.ref fa)) (c : He.SaysD p.fa defs K) (hx : p.exB K = true) :
    ∃ (fd : FuncData) (sp : Sp), (∀ (s : Shared) (v : Value), BindsTo s fd ⟨[v], []⟩ [(("script" : Str), v)]) ∧
      (∀ (H : Hp) (a : Addr) (ns : List Int), ns.length ≤ 63 → OnlyT ((p.tabs K).map (·.2)) H → (∀ b ∈ (p.tabs K).map (·.2), H b = some (.tbl #[])) → SqL K H a (ns.map V.int) → sp [.ref a] H (fun v _ => v = .bl true) fun _ _ _ => False) ∧
      ∀ base : Heap, K.In base → base.Ns mainGlobals mg → (∀ t ∈ p.tabs K, LamX.TabB base mg t.1 t.2) → FnG P w K mg base L2.CX0 (2 * n + 1) fa fd [("script" : Str)] sp := by
  have e := hfa.symm.trans (He.glo_ok X G (fact_in c (by
    refine fa0_in ?_
    unfold Pg.fa0
    exact List.mem_append_left _ (List.mem_append_left _ (List.mem_append_left _ (List.mem_map_of_mem (List.mem_of_getElem? en)))))))
  cases e
  obtain ⟨fd, hb, hF⟩ := law_ok (L := L) (n := n) (f := f) (P := P) (w := w) X G c hd hx ef ed Dk
  exact ⟨fd, _, hb, fun H a ns hl hO hH hS => sp_start hO hH hS fun d h q => hrun ns d h hl q, hF⟩
end
end Rf
end

section
namespace Rf
open PySem PySem.Spec PyProof.Rows L2

/-! ## running terms -/
def getV (o : Option (Option D)) (h : Hs) : R D := match o with | some (some d) => .ok d h | _ => .no
def getF (o : Option (Option D)) (k : Nat → R D) : R D := match o with | some (some (.fn f)) => k f | _ => .no
def getS (o : Option (Option D)) (k : D → RS) : RS := match o with | some (some d) => k d | _ => .no
def ixO (o : Option MO) (k : D) (h : Hs) : R D := match o, k with
  | some (.lst xs), .int i => ofO (atI xs i) h
  | some (.scr xs), .int i => ofO ((atI xs i).map D.int) h
  | some (.dic _ t kvs), k => if okK t kvs k then ofO (kvGet kvs k) h else .no
  | _, _ => .no
def slO (o : Option MO) (lo hi : Option Int) (h : Hs) : R D := match o with
  | some (.lst xs) => .ok (.ob h.length) (h ++ [.lst (cutD xs lo hi)])
  | some (.scr xs) => .ok (.ob h.length) (h ++ [.lst ((cutD xs lo hi).map D.int)])
  | _ => .no
def putO (n : Nat) (o : Option MO) (i v : D) (h : Hs) : Option Hs := match o, i with
  | some (.lst xs), .int k => (ixN xs.length k).map fun j => h.set n (.lst (xs.set j v))
  | some (.dic false t kvs), k => if okK t kvs k && decide (kvs.length < sizeLine) then some (h.set n (.dic false t (kvPut kvs k v))) else none
  | _, _ => none
def lenO (o : Option MO) (h : Hs) : R D := match o with
  | some (.lst s) => .ok (.int s.length) h
  | some (.scr s) => .ok (.int s.length) h
  | some (.dic _ false s) => .ok (.int s.length) h
  | _ => .no
def tupO (o : Option MO) (h : Hs) : R D := match o with
  | some (.lst s) => .ok (.tup s) h
  | _ => .no
def lstO (o : Option MO) (h : Hs) : R D := match o with
  | some (.lst s) => .ok (.ob h.length) (h ++ [.lst s])
  | some (.scr s) => .ok (.ob h.length) (h ++ [.lst (s.map D.int)])
  | some (.dic false false kvs) => .ok (.ob h.length) (h ++ [.lst (kvs.map (·.1))])
  | _ => .no
def appO (n : Nat) (o : Option MO) (y : D) (h : Hs) : R D := match o with
  | some (.lst s) => if s.length < sizeLine then .ok .non (h.set n (.lst (s ++ [y]))) else .no
  | _ => .no
def inO (o : Option MO) (x : D) : Option Bool := match o with
  | some (.lst ys) => if flat x && ys.all flat then some (inL x ys) else none
  | some (.dic _ t kvs) => if okK t kvs x then some (kvGet kvs x).isSome else none
  | _ => none
def itO (n : Nat) (o : Option MO) (h : Hs) : Option (List D × Gd × Hs) := match o with
  | some (.lst s) => some (s, .keep n (.lst s), h)
  | some (.scr s) => some (s.map D.int, .keep n (.scr s), h)
  | some (.dic true false kvs) => some (kvs.map (·.1), .keep n (.dic true false kvs), h)
  | some (.dic false false kvs) => some (kvs.map (·.1), .lock n false kvs, h.set n (.dic true false kvs))
  | _ => none
section
variable {W : Wd} {L : Nat} {cf : CF} {cx : CXI} {cs : List (List D)} {n : Nat} {h : Hs} {σ : Sg}
theorem r_var {i} : evalE W cf cx (.var i) σ h = getV σ[i]? h := by
  simp only [evalE, getV] <;> (rcases σ[i]? with _ | _ | d <;> rfl)
@[simp] theorem getV_s (d : D) : getV (some (some d)) h = .ok d h := rfl
theorem r_cav {i es} : evalE W cf none (.cav i es) σ h = getF σ[i]? fun f => (evalEs W cf none es σ h).bind fun xs h => cf f xs h := by
  simp only [evalE, getF] <;> (rcases σ[i]? with _ | _ | d <;> first | rfl | (cases d <;> rfl))
@[simp] theorem getF_s (f : Nat) (k) : getF (some (some (.fn f))) k = k f := rfl
theorem r_aug {i o e} : evalS W L cf none (.aug i o e) σ h = getS σ[i]? fun x => (evalE W cf none e σ h).stm σ fun y h => (augD o x y h).stm σ fun z h => .ok (.nx (σ.set i (some z))) h := by
  simp only [evalS, getS] <;> (rcases σ[i]? with _ | _ | d <;> rfl)
@[simp] theorem getS_s (d : D) (k) : getS (some (some d)) k = k d := rfl
theorem r_ix_ob {k} : ixD cs (.ob n) k h = ixO h[n]? k h := by
  cases e : h[n]? with
  | none => cases k <;> simp only [ixD, ixO, e]
  | some mo => cases mo <;> cases k <;> simp only [ixD, ixO, e]
@[simp] theorem ixO_l (xs i) : ixO (some (.lst xs)) (.int i) h = ofO (atI xs i) h := rfl
@[simp] theorem ixO_s (xs i) : ixO (some (.scr xs)) (.int i) h = ofO ((atI xs i).map D.int) h := rfl
@[simp] theorem ixO_d (lk t kvs k) : ixO (some (.dic lk t kvs)) k h = if okK t kvs k then ofO (kvGet kvs k) h else .no := by cases k <;> rfl
@[simp] theorem r_ix_tup (xs i) : ixD cs (.tup xs) (.int i) h = ofO (atI xs i) h := rfl
theorem r_sl_ob {a b} : slD (.ob n) a b h = slO h[n]? a b h := by
  cases e : h[n]? with
  | none => simp only [slD, slO, e]
  | some mo => cases mo <;> simp only [slD, slO, e]
@[simp] theorem slO_l (xs a b) : slO (some (.lst xs)) a b h = .ok (.ob h.length) (h ++ [.lst (cutD xs a b)]) := rfl
@[simp] theorem r_sl_tup (xs a b) : slD (.tup xs) a b h = .ok (.tup (cutD xs a b)) h := rfl
theorem r_put_ob {i v} : putD (.ob n) i v h = putO n h[n]? i v h := by
  cases e : h[n]? with
  | none => cases i <;> simp only [putD, putO, e]
  | some mo => cases mo with
    | dic lk t kvs => cases lk <;> cases i <;> simp only [putD, putO, e]
    | _ => cases i <;> simp only [putD, putO, e]
@[simp] theorem putO_l (xs k v) : putO n (some (.lst xs)) (.int k) v h = (ixN xs.length k).map fun j => h.set n (.lst (xs.set j v)) := rfl
@[simp] theorem putO_d (t kvs k v) : putO n (some (.dic false t kvs)) k v h = if okK t kvs k && decide (kvs.length < sizeLine) then some (h.set n (.dic false t (kvPut kvs k v))) else none := by cases k <;> rfl
@[simp] theorem r_len_tup (s) : bltC W .len [.tup s] h = .ok (.int s.length) h := rfl
@[simp] theorem r_len_str (s) : bltC W .len [.str s] h = if s.length ≤ sizeLine then .ok (.int s.length) h else .no := rfl
theorem r_len_ob : bltC W .len [.ob n] h = lenO h[n]? h := by
  have q : bltC W .len [.ob n] h = bltD .len [.ob n] h := rfl
  rw [q]
  cases e : h[n]? with
  | none => simp only [bltD, lenO, e]
  | some mo => cases mo with
    | dic lk t kvs => cases lk <;> cases t <;> simp only [bltD, lenO, e]
    | _ => simp only [bltD, lenO, e]
@[simp] theorem lenO_l (s) : lenO (some (.lst s)) h = .ok (.int s.length) h := rfl
@[simp] theorem lenO_s (s) : lenO (some (.scr s)) h = .ok (.int s.length) h := rfl
@[simp] theorem lenO_d (lk s) : lenO (some (.dic lk false s)) h = .ok (.int s.length) h := rfl
@[simp] theorem r_abs (i) : bltC W .abs [.int i] h = .ok (.int (if i < 0 then -i else i)) h := rfl
@[simp] theorem r_int (i) : bltC W .int [.int i] h = .ok (.int i) h := rfl
@[simp] theorem r_intb (b) : bltC W .int [.bl b] h = .ok (.int (if b then 1 else 0)) h := rfl
@[simp] theorem r_min (i j) : bltC W .min2 [.int i, .int j] h = .ok (.int (if j < i then j else i)) h := rfl
@[simp] theorem r_max (i j) : bltC W .max2 [.int i, .int j] h = .ok (.int (if j > i then j else i)) h := rfl
@[simp] theorem r_tup_tup (s) : bltC W .tuple [.tup s] h = .ok (.tup s) h := rfl
theorem r_tup_ob : bltC W .tuple [.ob n] h = tupO h[n]? h := by
  have q : bltC W .tuple [.ob n] h = bltD .tuple [.ob n] h := rfl
  rw [q]
  cases e : h[n]? with
  | none => simp only [bltD, tupO, e]
  | some mo => cases mo with
    | dic lk t kvs => cases lk <;> cases t <;> simp only [bltD, tupO, e]
    | _ => simp only [bltD, tupO, e]
@[simp] theorem tupO_l (s) : tupO (some (.lst s)) h = .ok (.tup s) h := rfl
@[simp] theorem r_lst_tup (s) : bltC W .list [.tup s] h = .ok (.ob h.length) (h ++ [.lst s]) := rfl
theorem r_lst_ob : bltC W .list [.ob n] h = lstO h[n]? h := by
  have q : bltC W .list [.ob n] h = bltD .list [.ob n] h := rfl
  rw [q]
  cases e : h[n]? with
  | none => simp only [bltD, lstO, e]
  | some mo => cases mo with
    | dic lk t kvs => cases lk <;> cases t <;> simp only [bltD, lstO, e]
    | _ => simp only [bltD, lstO, e]
@[simp] theorem lstO_l (s) : lstO (some (.lst s)) h = .ok (.ob h.length) (h ++ [.lst s]) := rfl
@[simp] theorem lstO_s (s) : lstO (some (.scr s)) h = .ok (.ob h.length) (h ++ [.lst (s.map D.int)]) := rfl
@[simp] theorem lstO_d (s) : lstO (some (.dic false false s)) h = .ok (.ob h.length) (h ++ [.lst (s.map (·.1))]) := rfl
theorem r_lst_con (g) : bltC W .list [.con g] h = if g = W.cons.length then .ok (.ob h.length) (h ++ [.lst (W.scr.map D.int)]) else match W.cons[g]? with
      | some ys => .ok (.ob h.length) (h ++ [.lst ys])
      | none => .no := rfl
@[simp] theorem r_isTup_tup (s) : bltC W .isTup [.tup s] h = .ok (.bl true) h := rfl
@[simp] theorem r_add (i j) : opD .add (.int i) (.int j) h = .ok (.int (i + j)) h := rfl
@[simp] theorem r_sub (i j) : opD .sub (.int i) (.int j) h = .ok (.int (i - j)) h := rfl
@[simp] theorem r_mul (i j) : opD .mul (.int i) (.int j) h = if (-(2 ^ 64) < i ∧ i < 2 ^ 64) ∨ (-(2 ^ 64) < j ∧ j < 2 ^ 64) then .ok (.int (i * j)) h else .no := rfl
@[simp] theorem r_fdiv (i j) : opD .fdiv (.int i) (.int j) h = if j ≠ 0 ∧ j.natAbs < 1073741824 then .ok (.int (i.fdiv j)) h else .no := rfl
@[simp] theorem r_mod (i j) : opD .mod (.int i) (.int j) h = if j ≠ 0 then .ok (.int (i.fmod j)) h else .no := rfl
@[simp] theorem r_addt (s t) : opD .add (.tup s) (.tup t) h = if s.length + t.length ≤ sizeLine then .ok (.tup (s ++ t)) h else .no := rfl
@[simp] theorem r_adds (s t) : opD .add (.str s) (.str t) h = if s.length + t.length ≤ sizeLine then .ok (.str (s ++ t)) h else .no := rfl
def catO (o o' : Option MO) (h : Hs) : R D := match o, o' with
  | some (.lst s), some (.lst t) => if s.length + t.length ≤ sizeLine then .ok (.ob h.length) (h ++ [.lst (s ++ t)]) else .no
  | _, _ => .no
theorem r_addl (n m) : opD .add (.ob n) (.ob m) h = catO h[n]? h[m]? h := by
  cases e : h[n]? with
  | none => simp only [opD, catO, e]
  | some mo => cases e2 : h[m]? with
    | none => cases mo <;> simp only [opD, catO, e, e2]
    | some mo2 => cases mo <;> cases mo2 <;> simp only [opD, catO, e, e2]
@[simp] theorem catO_l (s t) : catO (some (.lst s)) (some (.lst t)) h = if s.length + t.length ≤ sizeLine then .ok (.ob h.length) (h ++ [.lst (s ++ t)]) else .no := rfl
@[simp] theorem r_lt (i j) : cmpA cs .lt (.int i) (.int j) h = .ok (.bl (decide (i < j))) h := rfl
@[simp] theorem r_le (i j) : cmpA cs .le (.int i) (.int j) h = .ok (.bl (decide (i ≤ j))) h := rfl
@[simp] theorem r_gt (i j) : cmpA cs .gt (.int i) (.int j) h = .ok (.bl (decide (j < i))) h := rfl
@[simp] theorem r_ge (i j) : cmpA cs .ge (.int i) (.int j) h = .ok (.bl (decide (j ≤ i))) h := rfl
theorem eqD_flat {x y : D} (hx : flat x = true) (hy : flat y = true) : eqD h x y = some (eqv x y) := by
  unfold eqD
  split
  · simp [flat, pur] at hx
  · rw [hx, hy]; rfl
theorem dicB_flat {x y : D} (hx : flat x = true) : dicB x y h = none := by
  unfold dicB
  split
  · simp [flat, pur] at hx
  · rfl
theorem r_eq {x y : D} (hx : flat x = true) (hy : flat y = true) : cmpA cs .eq x y h = .ok (.bl (eqv x y)) h := by
  simp only [cmpA, dicB_flat hx, cmpD, eqD_flat hx hy]
theorem r_ne {x y : D} (hx : flat x = true) (hy : flat y = true) : cmpA cs .ne x y h = .ok (.bl (!eqv x y)) h := by
  simp only [cmpA, dicB_flat hx, cmpD, eqD_flat hx hy]
theorem r_ned {n m : Nat} {lk lk' : Bool} {ks ls : List (D × D)} (e1 : h[n]? = some (.dic lk false ks)) (e2 : h[m]? = some (.dic lk' false ls)) : cmpA cs .ne (.ob n) (.ob m) h = (ofO (eqKV ks ls) h).bind fun b h => .ok (.bl (!b)) h := by
  have q : dicB (.ob n) (.ob m) h = some (ks, ls) := by simp only [dicB, e1, e2]
  simp only [cmpA, q]
theorem r_dict {n : Nat} {lk : Bool} {kvs : List (D × D)} (e1 : h[n]? = some (.dic lk false kvs)) : bltC W .dict [.ob n] h = .ok (.ob h.length) (h ++ [.dic false false kvs]) := by
  have q : bltC W .dict [.ob n] h = bltD .dict [.ob n] h := rfl
  rw [q]
  simp only [bltD, e1]
@[simp] theorem r_eqi (i j) : cmpA cs .eq (.int i) (.int j) h = .ok (.bl (i == j)) h := r_eq rfl rfl
@[simp] theorem r_eqs (i j) : cmpA cs .eq (.str i) (.str j) h = .ok (.bl (i == j)) h := r_eq rfl rfl
@[simp] theorem r_nes (i j) : cmpA cs .ne (.str i) (.str j) h = .ok (.bl (!(i == j))) h := r_ne rfl rfl
theorem r_nin_ob {x} : cmpA cs .nin x (.ob n) h = (ofO (inO h[n]? x) h).bind fun b h => .ok (.bl (!b)) h := by
  have q : inD cs x (.ob n) h = inO h[n]? x := by
    cases e : h[n]? with
    | none => simp only [inD, inO, e]
    | some mo => cases mo <;> simp only [inD, inO, e]
  simp only [cmpA, q]
theorem r_in_ob {x} : cmpA cs .in_ x (.ob n) h = (ofO (inO h[n]? x) h).bind fun b h => .ok (.bl b) h := by
  have q : inD cs x (.ob n) h = inO h[n]? x := by
    cases e : h[n]? with
    | none => simp only [inD, inO, e]
    | some mo => cases mo <;> simp only [inD, inO, e]
  simp only [cmpA, q]
@[simp] theorem inO_l (x ys) : inO (some (.lst ys)) x = if flat x && ys.all flat then some (inL x ys) else none := rfl
@[simp] theorem inO_d (lk t kvs x) : inO (some (.dic lk t kvs)) x = if okK t kvs x then some (kvGet kvs x).isSome else none := rfl
@[simp] theorem r_tbl (b) : truthR (.bl b) h = .ok b h := rfl
@[simp] theorem r_tint (i) : truthR (.int i) h = .ok (i != 0) h := rfl
theorem r_met_lst {o m es x s h1} (eo : evalE W cf none o σ h = .ok (.ob x) h1) (e : h1[x]? = some (.lst s)) (hm : m = "append") : evalE W cf none (.met o m es) σ h = (evalEs W cf none es σ h1).bind fun xs h => methD .append (.ob x) xs h := by
  subst hm
  simp [evalE, eo, isIns, e, mtOf]
theorem r_app {n y} : methD .append (.ob n) [y] h = appO n h[n]? y h := by
  cases e : h[n]? with
  | none => simp only [methD, appO, e]
  | some mo => cases mo <;> simp only [methD, appO, e]
@[simp] theorem appO_l (s y) : appO n (some (.lst s)) y h = if s.length < sizeLine then .ok .non (h.set n (.lst (s ++ [y]))) else .no := rfl
theorem r_it_ob : itemsI cs .seq [.ob n] h = itO n h[n]? h := by
  cases e : h[n]? with
  | none => simp only [itemsI, itO, e]
  | some mo => cases mo with
    | dic lk t kvs => cases lk <;> cases t <;> simp only [itemsI, itO, e]
    | _ => simp only [itemsI, itO, e]
@[simp] theorem r_it_tup (s) : itemsI cs .seq [.tup s] h = some (s, .none, h) := rfl
@[simp] theorem itO_l (s) : itO n (some (.lst s)) h = some (s, .keep n (.lst s), h) := rfl
@[simp] theorem itO_d (kvs) : itO n (some (.dic false false kvs)) h = some (kvs.map (·.1), .lock n false kvs, h.set n (.dic true false kvs)) := rfl
theorem r_rng1 (j) : itemsI cs .rng1 [.int j] h = if -(2 ^ 62) ≤ j ∧ j < 2 ^ 62 then some ((List.range j.toNat).map fun (i : Nat) => D.int (0 + (i : Int)), .none, h) else none := rfl
theorem rng_small {j : Int} (h0 : 0 ≤ j) (h1 : j ≤ 1000000) : itemsI cs .rng1 [.int j] h = some ((List.range j.toNat).map fun (i : Nat) => D.int (i : Int), .none, h) := by
  rw [r_rng1, if_pos ⟨by omega, by omega⟩]
  simp only [Int.zero_add]
@[simp] theorem bindT_nm (i d) : bindT (.nm i) d σ = some (σ.set i (some d)) := rfl
theorem forI_nil {g turn} (hs : same g h) : forI g turn [] σ h = .ok (.nx σ) (endG g h) := by simp [forI, hs]
theorem forI_nx {g turn d ds σ' h'} (hs : same g h) (e : turn d σ h = .ok (.nx σ') h') : forI g turn (d :: ds) σ h = forI g turn ds σ' h' := by simp [forI, hs, e]
theorem lcI_nil {g turn acc} (hs : same g h) : lcI g turn [] acc h = .ok acc (endG g h) := by simp [lcI, hs]
theorem lcI_some {g turn d ds acc x h'} (hs : same g h) (e : turn d h = .ok (some x) h') (hl : acc.length < sizeLine) : lcI g turn (d :: ds) acc h = lcI g turn ds (acc ++ [x]) h' := by simp [lcI, hs, e, hl]
theorem lcI_skip {g turn d ds acc h'} (hs : same g h) (e : turn d h = .ok none h') : lcI g turn (d :: ds) acc h = lcI g turn ds acc h' := by simp [lcI, hs, e]
/-- a loop's turn -/
noncomputable def fT (W : Wd) (L : Nat) (cf : CF) (tg : Tg) (b : List S) : D → Sg → Hs → RS := fun d σ h => match bindT tg d σ with | some σ => evalB W L cf none b σ h | none => .no
theorem fT_some {tg b d σ1} (e : bindT tg d σ = some σ1) : fT W L cf tg b d σ h = evalB W L cf none b σ1 h := by unfold fT; rw [e]
theorem r_for {tg k its b} : evalS W L cf none (.for_ tg k its b) σ h = (evalEs W cf none its σ h).stm σ fun xs h => (ofO (itemsI W.cons k xs h) h).stm σ fun ig h =>
    forI ig.2.1 (fT W L cf tg b) ig.1 σ ig.2.2 := by
  simp only [evalS] <;> rfl
/-- a comprehension's turn -/
noncomputable def lT (W : Wd) (cf : CF) (own : List Nat) (tg : Tg) (cd : List E) (el : E) (σ : Sg) : D → Hs → R (Option D) := lcTurn (fun d => bindT tg d (wipeI σ own)) (fun σ1 h => (evalEs W cf none cd σ1 h).bind cdB) (fun σ1 h => evalE W cf none el σ1 h)
theorem r_lc {own tg k its cd el} : evalE W cf none (.lc own tg k its cd el) σ h = (evalEs W cf none its σ h).bind fun xs h => (ofO (itemsI W.cons k xs h) h).bind fun ig h =>
    (lcI ig.2.1 (lT W cf own tg cd el σ) ig.1 [] ig.2.2).bind lcEnd := by simp only [evalE] <;> rfl
theorem lT_nil {own tg el d σ1} (e : bindT tg d (wipeI σ own) = some σ1) : lT W cf own tg [] el σ d h = ((evalE W cf none el σ1 h).bind fun x h => .ok (some x) h).shut := by
  simp [lT, lcTurn, e, evalEs, cdB]
theorem q_set {i e} : evalS W L cf cx (.set i e) σ h = (evalE W cf cx e σ h).stm σ fun x h => .ok (.nx (σ.set i (some x))) h := by simp only [evalS]
theorem q_put {o i e} : evalS W L cf none (.put o i e) σ h = (evalE W cf none e σ h).stm σ fun v h => (evalE W cf none o σ h).stm σ fun x h => (evalE W cf none i σ h).stm σ fun y h => match putD x y v h with
    | some h => .ok (.nx σ) h
    | none => .no := by simp only [evalS] <;> rfl
theorem q_expr {e} : evalS W L cf cx (.expr e) σ h = (evalE W cf cx e σ h).stm σ fun _ h => .ok (.nx σ) h := by simp only [evalS]
theorem q_ret {e} : evalS W L cf cx (.ret e) σ h = (evalE W cf cx e σ h).stm σ fun x h => .ok (.rt x) h := by simp only [evalS]
theorem q_retN : evalS W L cf cx .retN σ h = .ok (.rt .non) h := by simp only [evalS]
theorem q_ife {c a b} : evalS W L cf cx (.ife c a b) σ h = (evalE W cf cx c σ h).stm σ fun x h => (truthR x h).stm σ fun t h => if t then evalB W L cf cx a σ h else evalB W L cf cx b σ h := by simp only [evalS]
theorem q_cons {s r} : evalB W L cf cx (s :: r) σ h = (evalS W L cf cx s σ h).then fun σ h => evalB W L cf cx r σ h := by simp only [evalB]
theorem q_nil : evalB W L cf cx [] σ h = .ok (.nx σ) h := by simp only [evalB]
theorem q_cst {d} : evalE W cf cx (.cst d) σ h = .ok d h := by simp only [evalE]
theorem q_bin {o a b} : evalE W cf cx (.bin o a b) σ h = (evalE W cf cx a σ h).bind fun x h => (evalE W cf cx b σ h).bind fun y h => opD o x y h := by simp only [evalE]
theorem q_neg {a} : evalE W cf cx (.neg a) σ h = (evalE W cf cx a σ h).bind fun x h => match x with | .int i => .ok (.int (-i)) h | _ => .no := by simp only [evalE] <;> rfl
theorem q_cmp {o a b} : evalE W cf cx (.cmp o a b) σ h = (evalE W cf cx a σ h).bind fun x h => (evalE W cf cx b σ h).bind fun y h => cmpA W.cons o x y h := by simp only [evalE]
theorem q_and {a b} : evalE W cf cx (.and a b) σ h = (evalE W cf cx a σ h).bind fun x h => (truthR x h).bind fun t h => if t then evalE W cf cx b σ h else .ok x h := by simp only [evalE]
theorem q_or {a b} : evalE W cf cx (.or a b) σ h = (evalE W cf cx a σ h).bind fun x h => (truthR x h).bind fun t h => if t then .ok x h else evalE W cf cx b σ h := by simp only [evalE]
theorem q_not {a} : evalE W cf cx (.not a) σ h = (evalE W cf cx a σ h).bind fun x h => (truthR x h).bind fun t h => .ok (.bl (!t)) h := by simp only [evalE]
theorem q_eife {c a b} : evalE W cf cx (.ife c a b) σ h = (evalE W cf cx c σ h).bind fun x h => (truthR x h).bind fun t h => if t then evalE W cf cx a σ h else evalE W cf cx b σ h := by simp only [evalE]
theorem q_tup {es} : evalE W cf cx (.tup es) σ h = (evalEs W cf cx es σ h).bind fun xs h => if xs.length ≤ sizeLine then .ok (.tup xs) h else .no := by simp only [evalE]
theorem q_lst {es} : evalE W cf cx (.lst es) σ h = (evalEs W cf cx es σ h).bind fun xs h => if xs.length ≤ sizeLine then .ok (.ob h.length) (h ++ [.lst xs]) else .no := by simp only [evalE]
theorem q_dic {t} : evalE W cf cx (.dic t [] []) σ h = .ok (.ob h.length) (h ++ [.dic false t []]) := by simp only [evalE]
theorem q_ix {a i} : evalE W cf cx (.ix a i) σ h = (evalE W cf cx a σ h).bind fun x h => (evalE W cf cx i σ h).bind fun y h => ixD W.cons x y h := by simp only [evalE]
theorem q_slc {a lo hi} : evalE W cf cx (.slc a lo hi) σ h = (evalE W cf cx a σ h).bind fun x h => (evalEs W cf cx lo σ h).bind fun l h => (ofO (optI l) h).bind fun l h => (evalEs W cf cx hi σ h).bind fun u h => (ofO (optI u) h).bind fun u h => slD x l u h := by simp only [evalE]
theorem q_cal {f es} : evalE W cf cx (.cal f es) σ h = (evalEs W cf cx es σ h).bind fun xs h => cf f xs h := by simp only [evalE]
theorem q_blt {b es} : evalE W cf cx (.blt b es) σ h = (evalEs W cf cx es σ h).bind fun xs h => bltC W b xs h := by simp only [evalE]
theorem q_enil : evalEs W cf cx [] σ h = .ok [] h := by simp only [evalEs]
theorem q_econs {e es} : evalEs W cf cx (e :: es) σ h = (evalE W cf cx e σ h).bind fun x h => (evalEs W cf cx es σ h).bind fun xs h => .ok (x :: xs) h := by simp only [evalEs]
/-- a method of a value that is no instance -/
noncomputable def metK (W : Wd) (cf : CF) (m : String) (es : List E) (σ : Sg) (x : D) (h : Hs) : R D := match isIns x h with
    | some (c, fs) => match (W.cls[c]?).bind fun ci => ci.meths.lookup m with
      | some f => if (fs.lookup m).isNone then (evalEs W cf none es σ h).bind fun xs h => cf f (x :: xs) h else .no
      | none => .no
    | none => match mtOf x m h with
      | some k => (evalEs W cf none es σ h).bind fun xs h => methD k x xs h
      | none => .no
theorem q_met {o m es} : evalE W cf none (.met o m es) σ h = (evalE W cf none o σ h).bind fun x h => metK W cf m es σ x h := by simp only [evalE, metK] <;> rfl
theorem callF_s {f : Nat} {fi : FI} {ds : List D} (e : W.fns[f]? = some fi) (hl : ds.length = fi.np) (hn : fi.lm = none := by rfl) : callF W L (n + 1) f ds h = (evalB W L (callF W L n) none fi.body (Rf.start fi.ns ds) h).fin := by
  simp [callF, e, hl, FI.cx, FI.st, hn]
theorem callF_v {f i j k : Nat} {fi : FI} {ds : List D} (e : W.fns[f]? = some fi) (hl : ds.length = fi.np) (hn : fi.lm = some (i, j, k)) : callF W L (n + 1) f ds h = (evalB W L (callF W L n) (some (j, (ds.drop i).map fun d => ("", d))) fi.body (Rf.start fi.ns (ds.take i)) h).fin := by
  simp [callF, e, hl, FI.cx, FI.st, hn]
@[simp] theorem stm_ofO_none {α : Type} (h : Hs) (σ) (f : α → Hs → RS) : (ofO (none : Option α) h).stm σ f = .no := rfl
/-- heaps -/
theorem lk_app {t : Hs} {o : MO} (e : h[n]? = some o) : (h ++ t)[n]? = some o := by
  rw [List.getElem?_append_left (List.getElem?_eq_some_iff.mp e).1]; exact e
theorem lk_new {o : MO} : (h ++ [o])[h.length]? = some o := by simp
theorem lk_lt {o : MO} (e : h[n]? = some o) : n < h.length := (List.getElem?_eq_some_iff.mp e).1
theorem atI_nat {α : Type} {xs : List α} {i : Nat} (hi : i < xs.length) : atI xs (i : Int) = some xs[i] := by
  have : (0 : Int) ≤ i := Int.natCast_nonneg i
  have h2 : (i : Int) < xs.length := by exact_mod_cast hi
  simp [atI, ixN, this, hi]
end
end Rf
namespace Rf
open PySem PySem.Spec PyProof.Rows L2
theorem atI_some {α : Type} {xs : List α} {k : Int} (h0 : 0 ≤ k) (h1 : k < xs.length) : ∃ x, x ∈ xs ∧ atI xs k = some x := by
  have hk : k.toNat < xs.length := by omega
  refine ⟨xs[k.toNat], List.getElem_mem hk, ?_⟩
  simp [atI, ixN, h0, h1, hk]
end Rf
namespace Rf
open PySem PySem.Spec PyProof.Rows L2
def insO (o : Option MO) : Option (Nat × List (String × D)) := match o with
  | some (.ins c fs) => some (c, fs)
  | _ => none
def mtO (o : Option MO) (m : String) : Option Mt := match o with
  | some (.lst _) => if m = "append" then some .append else if m = "reverse" then some .reverse else if m = "extend" then some .extend else if m = "pop" then some .pop else if m = "insert" then some .insert else none
  | some (.dic false false _) => if m = "update" then some .update else none
  | _ => none
section
variable {n : Nat} {h : Hs}
theorem r_ins : isIns (.ob n) h = insO h[n]? := by
  cases e : h[n]? with
  | none => simp only [isIns, insO, e]
  | some mo => cases mo <;> simp only [isIns, insO, e]
@[simp] theorem insO_l (s) : insO (some (.lst s)) = none := rfl
theorem r_mt {m} : mtOf (.ob n) m h = mtO h[n]? m := by
  cases e : h[n]? with
  | none => simp only [mtOf, mtO, e]
  | some mo => cases mo with
    | dic lk t kvs => cases lk <;> cases t <;> simp only [mtOf, mtO, e]
    | _ => simp only [mtOf, mtO, e]
@[simp] theorem r_mts (s m) : mtOf (.str s) m h = if m = "isalnum" then some .isalnum else if m = "startswith" then some .startswith else if m = "find" then some .find else if m = "lower" then some .lower else if m = "join" then some .join else none := rfl
@[simp] theorem mtO_l (s) : mtO (some (.lst s)) "append" = some .append := rfl
@[simp] theorem mtO_r (s) : mtO (some (.lst s)) "reverse" = some .reverse := rfl
@[simp] theorem mtO_e (s) : mtO (some (.lst s)) "extend" = some .extend := rfl
@[simp] theorem mtO_p (s) : mtO (some (.lst s)) "pop" = some .pop := rfl
noncomputable def metO (W : Wd) (cf : CF) (n : Nat) (o : Option MO) (es : List E) (σ : Sg) (h : Hs) : R D := match o with
  | some (.lst _) => (evalEs W cf none es σ h).bind fun xs h => methD .append (.ob n) xs h
  | _ => .no
theorem r_metapp {W : Wd} {cf : CF} {es : List E} {σ : Sg} {s : List D} (e : h[n]? = some (.lst s)) : metK W cf "append" es σ (.ob n) h = (evalEs W cf none es σ h).bind fun xs h => methD .append (.ob n) xs h := by
  unfold metK
  simp only [r_ins, r_mt, e, insO_l, mtO_l]
end
end Rf
namespace Rf
section
variable {α : Type} (a b c d : α) (r : List α)
theorem atI_0 : L2.atI (a :: r) 0 = some a := by
  have : (0 : Int) < ((a :: r).length : Int) := by simp only [List.length_cons]; omega
  simp only [L2.atI, L2.ixN, if_pos this]; rfl
theorem atI_1 : L2.atI (a :: b :: r) 1 = some b := by
  have : (1 : Int) < ((a :: b :: r).length : Int) := by simp only [List.length_cons]; omega
  simp only [L2.atI, L2.ixN, if_pos this]; rfl
theorem atI_2 : L2.atI (a :: b :: c :: r) 2 = some c := by
  have : (2 : Int) < ((a :: b :: c :: r).length : Int) := by simp only [List.length_cons]; omega
  simp only [L2.atI, L2.ixN, if_pos this]; rfl
theorem atI_3 : L2.atI (a :: b :: c :: d :: r) 3 = some d := by
  have : (3 : Int) < ((a :: b :: c :: d :: r).length : Int) := by simp only [List.length_cons]; omega
  simp only [L2.atI, L2.ixN, if_pos this]; rfl
end
end Rf

namespace Rf
open PySem PySem.Spec PyProof.Rows L2
def fldO (cl : List CI) (o : Option MO) (f : String) (h : Hs) : R D := match o with
  | some (.ins c fs) => if hasF cl c f then ofO (fs.lookup f) h else .no
  | _ => .no
def fsetO (cl : List CI) (n : Nat) (o : Option MO) (f : String) (v : D) (h : Hs) : Option Hs := match o with
  | some (.ins c fs) => if hasF cl c f && decide (fs.length < 900) then some (h.set n (.ins c (fput f v fs))) else none
  | _ => none
def backO (o : Option MO) (h : Hs) : R D := match o with
  | some (.lst xs) => .ok (.ob h.length) (h ++ [.lst xs.reverse])
  | _ => .no
def isLO (o : Option MO) (l d : Bool) (h : Hs) : R D := match o with
  | some (.lst _) => .ok (.bl l) h
  | some (.dic false _ _) => .ok (.bl d) h
  | _ => .no
def eqO2 (o o' : Option MO) : Option Bool := match o, o' with
  | some (.lst xs), some (.lst ys) => if purs xs && purs ys && decide (deps xs ≤ 60) && decide (deps ys ≤ 60) then some (eqvs xs ys) else none
  | _, _ => none
section
variable {W : Wd} {L : Nat} {cf : CF} {cs : List (List D)} {cl : List CI} {n : Nat} {h : Hs} {σ : Sg}
theorem r_fld {f} : fldD cl (.ob n) f h = fldO cl h[n]? f h := by
  cases e : h[n]? with
  | none => simp only [fldD, fldO, e]
  | some mo => cases mo <;> simp only [fldD, fldO, e]
@[simp] theorem fldO_i (c fs f) : fldO cl (some (.ins c fs)) f h = if hasF cl c f then ofO (fs.lookup f) h else .no := rfl
theorem r_fset {f v} : fsetD cl (.ob n) f v h = fsetO cl n h[n]? f v h := by
  cases e : h[n]? with
  | none => simp only [fsetD, fsetO, e]
  | some mo => cases mo <;> simp only [fsetD, fsetO, e]
@[simp] theorem fsetO_i (c fs f v) : fsetO cl n (some (.ins c fs)) f v h = if hasF cl c f && decide (fs.length < 900) then some (h.set n (.ins c (fput f v fs))) else none := rfl
theorem q_fld {a f} : evalE W cf none (.fld a f) σ h = (evalE W cf none a σ h).bind fun x h => fldD W.cls x f h := by simp only [evalE]
theorem q_fset {o f e} : evalS W L cf none (.fset o f e) σ h = (evalE W cf none e σ h).stm σ fun v h => (evalE W cf none o σ h).stm σ fun x h => match fsetD W.cls x f v h with
    | some h => .ok (.nx σ) h
    | none => .no := by simp only [evalS] <;> rfl
def newK (o : Nat) : D → Hs → R D := fun r h' => match r with | .non => .ok (.ob o) h' | _ => .no
@[simp] theorem newK_n (o : Nat) (h' : Hs) : newK o .non h' = .ok (.ob o) h' := rfl
theorem q_new {c es} {ci : CI} {f : Nat} (ec : W.cls[c]? = some ci) (ef : ci.ini = some f) : evalE W cf none (.new c es) σ h = (evalEs W cf none es σ h).bind fun xs h => (cf f (.ob h.length :: xs) (h ++ [.ins c []])).bind (newK h.length) := by
  simp only [evalE, ec, ef, Option.bind_some] <;> rfl
theorem q_back {a} : evalE W cf none (.back a) σ h = (evalE W cf none a σ h).bind fun x h => match x with
    | .ob n => backO h[n]? h
    | _ => .no := by
  simp only [evalE] <;> (cases evalE W cf none a σ h <;> rfl)
@[simp] theorem backO_l (s) : backO (some (.lst s)) h = .ok (.ob h.length) (h ++ [.lst s.reverse]) := rfl
theorem r_isList_ob : bltC W .isList [.ob n] h = isLO h[n]? true false h := by
  have q : bltC W .isList [.ob n] h = isObB h n true false := rfl
  rw [q]
  cases e : h[n]? with
  | none => simp only [isObB, isLO, e]
  | some mo => cases mo with
    | dic lk t kvs => cases lk <;> simp only [isObB, isLO, e]
    | _ => simp only [isObB, isLO, e]
theorem r_isTup_ob : bltC W .isTup [.ob n] h = isLO h[n]? false false h := by
  have q : bltC W .isTup [.ob n] h = isObB h n false false := rfl
  rw [q]
  cases e : h[n]? with
  | none => simp only [isObB, isLO, e]
  | some mo => cases mo with
    | dic lk t kvs => cases lk <;> simp only [isObB, isLO, e]
    | _ => simp only [isObB, isLO, e]
@[simp] theorem isLO_l (s l d) : isLO (some (.lst s)) l d h = .ok (.bl l) h := rfl
@[simp] theorem r_isList_tup (s) : bltC W .isList [.tup s] h = .ok (.bl false) h := rfl
@[simp] theorem r_isTup_non : bltC W .isTup [.non] h = .ok (.bl false) h := rfl
@[simp] theorem r_isTup_str (s) : bltC W .isTup [.str s] h = .ok (.bl false) h := rfl
theorem r_repr {xs : List D} (h1 : rpOk (.tup xs) = true) (h2 : dep (.tup xs) ≤ 64) (h3 : (rp (.tup xs)).length ≤ sizeLine) : bltC W .repr [.tup xs] h = .ok (.str (rp (.tup xs))) h := by
  have q : bltC W .repr [.tup xs] h = bltD .repr [.tup xs] h := rfl
  rw [q]
  simp only [bltD, h1, h2, h3, decide_true, Bool.and_true, if_true]
theorem r_eql {m} : eqD h (.ob n) (.ob m) = eqO2 h[n]? h[m]? := by
  cases e : h[n]? with
  | none => simp only [eqD, eqO2, e]
  | some mo => cases e2 : h[m]? with
    | none => cases mo <;> simp only [eqD, eqO2, e, e2]
    | some mo2 => cases mo <;> cases mo2 <;> simp only [eqD, eqO2, e, e2]
theorem r_eqll {m : Nat} {xs ys : List D} (e1 : h[n]? = some (.lst xs)) (e2 : h[m]? = some (.lst ys)) (p1 : purs xs = true) (p2 : purs ys = true) (d1 : deps xs ≤ 60) (d2 : deps ys ≤ 60) :
    cmpA cs .eq (.ob n) (.ob m) h = .ok (.bl (eqvs xs ys)) h ∧ cmpA cs .ne (.ob n) (.ob m) h = .ok (.bl (!eqvs xs ys)) h := by
  have q : dicB (.ob n) (.ob m) h = none := by simp only [dicB, e1, e2]
  have q2 : eqD h (.ob n) (.ob m) = some (eqvs xs ys) := by simp only [r_eql, e1, e2, eqO2, p1, p2, d1, d2, decide_true, Bool.and_true, if_true]
  constructor <;> simp only [cmpA, q, cmpD, q2]
/-- a method of an instance -/
theorem r_metI {m : String} {es : List E} {c : Nat} {fs : List (String × D)} {ci : CI} {f : Nat} (e : h[n]? = some (.ins c fs)) (ec : W.cls[c]? = some ci) (em : ci.meths.lookup m = some f) (ef : fs.lookup m = none) :
    metK W cf m es σ (.ob n) h = (evalEs W cf none es σ h).bind fun xs h => cf f (.ob n :: xs) h := by
  unfold metK
  have q : isIns (.ob n) h = some (c, fs) := by simp only [isIns, e]
  simp only [q, ec, Option.bind_some, em, ef, Option.isNone_none, if_true]
theorem r_metrev {s : List D} (e : h[n]? = some (.lst s)) : metK W cf "reverse" [] σ (.ob n) h = .ok .non (h.set n (.lst s.reverse)) := by
  unfold metK
  simp only [r_ins, r_mt, e, insO_l, mtO_r, q_enil, R.bind_ok, methD]
end
end Rf
namespace Rf
open PySem PySem.Spec PyProof.Rows L2
section
variable {W : Wd} {L : Nat} {cf : CF} {cx : CXI} {cs : List (List D)} {n : Nat} {h : Hs} {σ : Sg}
theorem q_raise {c es} : evalS W L cf cx (.raise c es) σ h = (evalEs W cf cx es σ h).stm σ fun xs h => if 0 < (W.exf c).length ∧ xs.length = (W.exf c).length ∧ xs.length ≤ 900 then .exc c ((W.exf c).zip xs).reverse σ h else .no := by simp only [evalS] <;> rfl
/-- what a try makes of its body's outcome -/
noncomputable def tryK (W : Wd) (L : Nat) (cf : CF) (hs : List (Nat × Option Nat × List S)) (r : RS) : RS := match r with
  | .exc c fs σ1 h1 => if 0 < (W.exf c).length then evalH W L cf c fs hs σ1 h1 else .no
  | r => r
theorem q_try {b hs} : evalS W L cf cx (.try_ b hs) σ h = tryK W L cf hs (evalB W L cf cx b σ h) := by simp only [evalS, tryK] <;> rfl
@[simp] theorem tryK_nx (hs σ h) : tryK W L cf hs (.ok (.nx σ) h) = .ok (.nx σ) h := rfl
@[simp] theorem tryK_rt (hs d h) : tryK W L cf hs (.ok (.rt d) h) = .ok (.rt d) h := rfl
@[simp] theorem tryK_exc (hs c fs σ h) : tryK W L cf hs (.exc c fs σ h) = if 0 < (W.exf c).length then evalH W L cf c fs hs σ h else .no := rfl
theorem q_hnil {c fs} : evalH W L cf c fs [] σ h = .exc c fs σ h := by simp only [evalH]
theorem q_hcons {c fs k o b r} : evalH W L cf c fs ((k, o, b) :: r) σ h = if W.isa c k then (evalB W L cf (some (c, fs)) b (offI o σ) h).offs o else evalH W L cf c fs r σ h := by simp only [evalH]
@[simp] theorem offI_s (i σ) : offI (some i) σ = σ.set i none := rfl
@[simp] theorem offI_n (σ) : offI none σ = σ := rfl
def exfK (W : Wd) (c : Nat) (fs : List (String × D)) (f : String) (o : Option (Option D)) (h : Hs) : R D := match o with
  | some none => if f ∈ W.exf c then ofO (fs.lookup f) h else .no
  | _ => .no
theorem q_cml {v j es cs} : evalE W cf cx (.cml v j es cs) σ h = (evalEs W cf cx es σ h).bind fun xs h => (evalEs W cf cx cs σ h).bind fun ys h => cf v (xs ++ ys) h := by simp only [evalE]
def mmlK (k : Option (Nat × List (String × D))) (c : Nat) (m : String) (r : R D) : R D := match k with
  | some (c', fs) => if c' = c ∧ (fs.lookup m).isNone = true then r else .no
  | none => .no
theorem q_mml {c o m v j cs} : evalE W cf cx (.mml c o m v j cs) σ h = (evalE W cf cx o σ h).bind fun x h => mmlK (isIns x h) c m ((evalEs W cf cx cs σ h).bind fun ys h => cf v (x :: ys) h) := by
  simp only [evalE, mmlK] <;> rfl
def cvlK (o : Option (Option D)) (k : R D) : R D := match o with | some none => k | _ => .no
@[simp] theorem cvlK_n (k : R D) : cvlK (some none) k = k := rfl
theorem q_cvl {i es j fs} : evalE W cf (some (j, fs)) (.cvl i es) σ h = cvlK σ[i]? ((evalEs W cf (some (j, fs)) es σ h).bind fun xs h => cf j (fs.map (·.2) ++ xs) h) := by
  simp only [evalE, cvlK] <;> (rcases σ[i]? with _ | _ | d <;> rfl)
theorem q_exf {i f c fs} : evalE W cf (some (c, fs)) (.exf i f) σ h = exfK W c fs f σ[i]? h := by
  simp only [evalE, exfK] <;> (rcases σ[i]? with _ | _ | d <;> rfl)
@[simp] theorem exfK_n (c fs f) : exfK W c fs f (some none) h = if f ∈ W.exf c then ofO (fs.lookup f) h else .no := rfl
theorem q_gni {g i} : evalE W cf cx (.gni g i) σ h = .ok (.int i) h := by simp only [evalE]
theorem q_glb {g} : evalE W cf cx (.glb g) σ h = .ok (.con g) h := by simp only [evalE]
theorem q_gst {g s} : evalE W cf cx (.gst g s) σ h = .ok (.str s) h := by simp only [evalE]
/-- other methods of lists and dicts -/
theorem r_metl {m : String} {k : Mt} {es : List E} {s : List D} (e : h[n]? = some (.lst s)) (hk : mtO (some (.lst s)) m = some k) : metK W cf m es σ (.ob n) h = (evalEs W cf none es σ h).bind fun xs h => methD k (.ob n) xs h := by
  unfold metK
  simp only [r_ins, r_mt, e, insO_l, hk]
theorem r_metins {es : List E} {s : List D} (e : h[n]? = some (.lst s)) : metK W cf "insert" es σ (.ob n) h = (evalEs W cf none es σ h).bind fun xs h => methD .insert (.ob n) xs h := r_metl e rfl
theorem r_metupd {es : List E} {s : List (D × D)} (e : h[n]? = some (.dic false false s)) : metK W cf "update" es σ (.ob n) h = (evalEs W cf none es σ h).bind fun xs h => methD .update (.ob n) xs h := by
  unfold metK
  have q : insO (some (.dic false false s)) = none := rfl
  have q2 : mtO (some (.dic false false s)) "update" = some .update := rfl
  simp only [r_ins, r_mt, e, q, q2]
theorem r_insert {s : List D} {i : Int} {y : D} (e : h[n]? = some (.lst s)) (h1 : s.length < sizeLine) (h2 : 0 ≤ i) (h3 : i < 2 ^ 62) : methD .insert (.ob n) [.int i, y] h = .ok .non (h.set n (.lst (s.take i.toNat ++ [y] ++ s.drop i.toNat))) := by
  simp only [methD, e, h1, h2, h3, and_self, if_true]
theorem r_update {m : Nat} {ks ls : List (D × D)} {lk : Bool} (e : h[n]? = some (.dic false false ks)) (e2 : h[m]? = some (.dic lk false ls)) (ne : n ≠ m) (hl : ks.length + ls.length ≤ sizeLine) : methD .update (.ob n) [.ob m] h = .ok .non (h.set n (.dic false false (kvMrg ks ls))) := by
  simp only [methD, e, e2, ne, hl, ne_eq, not_false_eq_true, and_self, if_true]
@[simp] theorem r_isx_nn (cs : List (List D)) (h : Hs) : cmpA cs .is_ .non .non h = .ok (.bl true) h := rfl
@[simp] theorem r_isx_tn (cs : List (List D)) (xs : List D) (h : Hs) : cmpA cs .is_ (.tup xs) .non h = .ok (.bl false) h := rfl
@[simp] theorem r_isnx_nn (cs : List (List D)) (h : Hs) : cmpA cs .isn .non .non h = .ok (.bl false) h := rfl
@[simp] theorem r_isnx_tn (cs : List (List D)) (xs : List D) (h : Hs) : cmpA cs .isn (.tup xs) .non h = .ok (.bl true) h := rfl
@[simp] theorem r_isnx_sn (cs : List (List D)) (s : List Char) (h : Hs) : cmpA cs .isn (.str s) .non h = .ok (.bl true) h := rfl
@[simp] theorem r_isx_sn (cs : List (List D)) (s : List Char) (h : Hs) : cmpA cs .is_ (.str s) .non h = .ok (.bl false) h := rfl
end
end Rf
end

section
namespace Rf
open PySem PySem.Spec PyProof.Rows L2

/-! ## terms that say nothing of the exception or the lambda at hand -/
mutual
def noX : E → Bool
  | .exf _ _ => false
  | .cvl _ _ => false
  | .bin _ a b => noX a && noX b
  | .neg a => noX a
  | .cmp _ a b => noX a && noX b
  | .chn _ _ a b c => noX a && noX b && noX c
  | .and a b => noX a && noX b
  | .or a b => noX a && noX b
  | .not a => noX a
  | .ife c a b => noX c && noX a && noX b
  | .tup es => noXs es
  | .lst es => noXs es
  | .dic _ ks vs => noXs ks && noXs vs
  | .ix a i => noX a && noX i
  | .slc a lo hi => noX a && noXs lo && noXs hi
  | .back a => noX a
  | .fld a _ => noX a
  | .cal _ es => noXs es
  | .cav _ es => noXs es
  | .new _ es => noXs es
  | .met o _ es => noX o && noXs es
  | .blt _ es => noXs es
  | .lc _ _ _ its cd el => noXs its && noXs cd && noX el
  | .cml _ _ es cs => noXs es && noXs cs
  | .mml _ o _ _ _ cs => noX o && noXs cs
  | _ => true
def noXs : List E → Bool
  | [] => true
  | e :: es => noX e && noXs es
end
section
variable {W : Wd} {cf : CF} {cx : CXI}
mutual
theorem e_cx : ∀ (e : E), noX e = true → ∀ (σ : Sg) (h : Hs), evalE W cf cx e σ h = evalE W cf none e σ h
  | .var i, _, σ, h => by simp only [evalE]
  | .cst d, _, σ, h => by simp only [evalE]
  | .glb d, _, σ, h => by simp only [evalE]
  | .gst d s, _, σ, h => by simp only [evalE]
  | .gni d s, _, σ, h => by simp only [evalE]
  | .fnv d, _, σ, h => by simp only [evalE]
  | .bin o a b, q, σ, h => by
    simp only [noX, Bool.and_eq_true] at q
    simp only [evalE, e_cx a q.1, e_cx b q.2]
  | .neg a, q, σ, h => by
    simp only [noX] at q
    simp only [evalE, e_cx a q]
  | .cmp o a b, q, σ, h => by
    simp only [noX, Bool.and_eq_true] at q
    simp only [evalE, e_cx a q.1, e_cx b q.2]
  | .chn o o' a b c, q, σ, h => by
    simp only [noX, Bool.and_eq_true] at q
    simp only [evalE, e_cx a q.1.1, e_cx b q.1.2, e_cx c q.2]
  | .and a b, q, σ, h => by
    simp only [noX, Bool.and_eq_true] at q
    simp only [evalE, e_cx a q.1, e_cx b q.2]
  | .or a b, q, σ, h => by
    simp only [noX, Bool.and_eq_true] at q
    simp only [evalE, e_cx a q.1, e_cx b q.2]
  | .not a, q, σ, h => by
    simp only [noX] at q
    simp only [evalE, e_cx a q]
  | .ife c a b, q, σ, h => by
    simp only [noX, Bool.and_eq_true] at q
    simp only [evalE, e_cx c q.1.1, e_cx a q.1.2, e_cx b q.2]
  | .tup es, q, σ, h => by
    simp only [noX] at q
    simp only [evalE, es_cx es q]
  | .lst es, q, σ, h => by
    simp only [noX] at q
    simp only [evalE, es_cx es q]
  | .dic t ks vs, q, σ, h => by simp only [evalE]
  | .ix a i, q, σ, h => by
    simp only [noX, Bool.and_eq_true] at q
    simp only [evalE, e_cx a q.1, e_cx i q.2]
  | .slc a lo hi, q, σ, h => by
    simp only [noX, Bool.and_eq_true] at q
    simp only [evalE, e_cx a q.1.1, es_cx lo q.1.2, es_cx hi q.2]
  | .back a, q, σ, h => by
    simp only [noX] at q
    simp only [evalE, e_cx a q]
  | .fld a f, q, σ, h => by
    simp only [noX] at q
    simp only [evalE, e_cx a q]
  | .cal f es, q, σ, h => by
    simp only [noX] at q
    simp only [evalE, es_cx es q]
  | .cav f es, q, σ, h => by
    simp only [noX] at q
    simp only [evalE, es_cx es q]
  | .new f es, q, σ, h => by
    simp only [noX] at q
    simp only [evalE, es_cx es q]
  | .met o m es, q, σ, h => by
    simp only [noX, Bool.and_eq_true] at q
    simp only [evalE, e_cx o q.1, es_cx es q.2]
  | .blt b es, q, σ, h => by
    simp only [noX] at q
    simp only [evalE, es_cx es q]
  | .lc own tg k its cd el, q, σ, h => by
    simp only [noX, Bool.and_eq_true] at q
    simp only [evalE, es_cx its q.1.1, es_cx cd q.1.2, e_cx el q.2]
  | .cml v j es cs, q, σ, h => by
    simp only [noX, Bool.and_eq_true] at q
    simp only [evalE, es_cx es q.1, es_cx cs q.2]
  | .mml c o m v j cs, q, σ, h => by
    simp only [noX, Bool.and_eq_true] at q
    simp only [evalE, e_cx o q.1, es_cx cs q.2]
  | .exf _ _, q, _, _ => by cases q
  | .cvl _ _, q, _, _ => by cases q
theorem es_cx : ∀ (es : List E), noXs es = true → ∀ (σ : Sg) (h : Hs), evalEs W cf cx es σ h = evalEs W cf none es σ h
  | [], _, σ, h => by simp only [evalEs]
  | e :: es, q, σ, h => by
    simp only [noXs, Bool.and_eq_true] at q
    simp only [evalEs, e_cx e q.1, es_cx es q.2]
end
variable {L : Nat} {σ : Sg} {h : Hs}
theorem s_faug {a : E} {f : String} {o : Op} {e : E} (q : noX a = true) (q2 : noX e = true) : evalS W L cf cx (.faug a f o e) σ h = evalS W L cf none (.faug a f o e) σ h := by
  simp only [evalS, e_cx a q, e_cx e q2]
theorem s_fset {a : E} {f : String} {e : E} (q : noX a = true) (q2 : noX e = true) : evalS W L cf cx (.fset a f e) σ h = evalS W L cf none (.fset a f e) σ h := by
  simp only [evalS, e_cx a q, e_cx e q2]
theorem s_expr {e : E} (q : noX e = true) : evalS W L cf cx (.expr e) σ h = evalS W L cf none (.expr e) σ h := by
  simp only [evalS, e_cx e q]
theorem s_set {i : Nat} {e : E} (q : noX e = true) : evalS W L cf cx (.set i e) σ h = evalS W L cf none (.set i e) σ h := by
  simp only [evalS, e_cx e q]
theorem s_ret {e : E} (q : noX e = true) : evalS W L cf cx (.ret e) σ h = evalS W L cf none (.ret e) σ h := by
  simp only [evalS, e_cx e q]
theorem r_faug {i n : Nat} {f : String} {o : Op} {d y w : D} {c : Nat} {fs : List (String × D)} (hσ : σ[i]? = some (some (.ob n))) (e : h[n]? = some (.ins c fs)) (hf : hasF W.cls c f = true) (hl : fs.lookup f = some y) (ha : augD o y d h = .ok w h) (h9 : fs.length < 900) :
    evalS W L cf none (.faug (.var i) f o (.cst d)) σ h = .ok (.nx σ) (h.set n (.ins c (fput f w fs))) := by
  simp [evalS, evalE, hσ, isIns, e, hf, hl, ha, fsetD, h9]
end
end Rf
end

section
namespace K13
open PySem PySem.Spec PyProof.Rows L2 Rf
abbrev prog : Program := PySem.Challenge.pw_pourparler_k13_subtalk_order
abbrev top (i : Nat) : Stmt := prog.main.body.getD i (.Pass ⟨0, 0, 0, 0⟩)
abbrev mth (i j : Nat) : Stmt := (cbody (top i)).getD j (.Pass ⟨0, 0, 0, 0⟩)
def nmF : List Str := [("_law_wide" : Str), ("_law_take" : Str), ("_law_pool" : Str), ("_law_names" : Str), ("_law_kind" : Str), ("_law_label" : Str), ("_law_talk" : Str), ("_law_table" : Str), ("_law_dual" : Str), ("_law_head" : Str), ("_law_row" : Str), ("stands_for_another" : Str), ("dual" : Str), ("dual_kind" : Str), ("rows_of" : Str), ("head" : Str), ("row_of" : Str), ("_wall" : Str), ("is_subtalk" : Str), ("wrong_path" : Str), ("visit" : Str), ("_law_near" : Str), ("_law_two" : Str), ("law" : Str)]
/-- _law_wide(script, k, cell, mixed) -/
def f__law_wide : FI := ⟨2, 4,
  [.set 2 (.cst (.int 0)),
  .ife (.cmp .lt (.var 1) (.blt .len [(.var 0)]))
    [.set 2 (.blt .abs [(.ix (.var 0) (.var 1))])]
    [],
  .ife (.cmp .ge (.var 2) (.cst (.int 1000000000000000000)))
    [.ret (.var 2)]
    [],
  .set 3 (.bin .mod (.blt .int [(.bin .add (.bin .mul (.bin .add (.var 2) (.cst (.int 1))) (.cst (.int 6364136223846793005))) (.bin .mul (.bin .add (.var 1) (.cst (.int 1))) (.cst (.int 1442695040888963407))))]) (.cst (.int 2305843009213693951))),
  .ret (.bin .mod (.blt .int [(.bin .add (.bin .mul (.var 3) (.cst (.int 3202034522624059733))) (.bin .fdiv (.var 3) (.cst (.int 1000003))))]) (.cst (.int 2305843009213693951)))], none⟩
abbrev s__law_wide : Stmt := top 16
def d__law_wide : He.DefD := ⟨("_law_wide", none), "_law_wide", "_law_wide", defArgs s__law_wide, defBody s__law_wide, defScope s__law_wide, [], []⟩
/-- _law_take(pool, most, value) -/
def f__law_take : FI := ⟨2, 3,
  [.ife (.cmp .lt (.ix (.var 0) (.cst (.int 0))) (.cst (.int 1000)))
    [.put (.var 0) (.cst (.int 2)) (.bin .add (.ix (.var 0) (.cst (.int 2))) (.cst (.int 1))),
    .put (.var 0) (.cst (.int 0)) (.cal 0 [(.ix (.var 0) (.cst (.int 1))), (.ix (.var 0) (.cst (.int 2)))])]
    [],
  .set 2 (.bin .mod (.blt .int [(.ix (.var 0) (.cst (.int 0)))]) (.var 1)),
  .put (.var 0) (.cst (.int 0)) (.bin .fdiv (.ix (.var 0) (.cst (.int 0))) (.var 1)),
  .ret (.var 2)], none⟩
abbrev s__law_take : Stmt := top 17
def d__law_take : He.DefD := ⟨("_law_take", none), "_law_take", "_law_take", defArgs s__law_take, defBody s__law_take, defScope s__law_take, [], []⟩
/-- _law_pool(script) -/
def f__law_pool : FI := ⟨1, 1,
  [.ret (.lst [(.cst (.int 0)), (.blt .list [(.var 0)]), (.neg (.cst (.int 1)))])], none⟩
abbrev s__law_pool : Stmt := top 18
def d__law_pool : He.DefD := ⟨("_law_pool", none), "_law_pool", "_law_pool", defArgs s__law_pool, defBody s__law_pool, defScope s__law_pool, [], []⟩
/-- _law_names(pool, first, second) -/
def f__law_names : FI := ⟨1, 3,
  [.set 1 (.ix (.lst [(.cst (.str ['T'])), (.cst (.str ['T', 'a'])), (.cst (.str ['T', 'a', 'l', 'k'])), (.cst (.str ['X', '9'])), (.cst (.str ['C', 'a', 'l', 'c'])), (.cst (.str ['B']))]) (.cal 1 [(.var 0), (.cst (.int 6))])),
  .set 2 (.ix (.lst [(.cst (.str ['U'])), (.cst (.str ['T', 'b'])), (.cst (.str ['T', 'a', 'l'])), (.cst (.str ['X', '8'])), (.cst (.str ['D', 'i', 'a', 'l'])), (.cst (.str ['A']))]) (.cal 1 [(.var 0), (.cst (.int 6))])),
  .ret (.slc (.lst [(.var 1), (.var 2), (.cst (.str ['Z', 'z']))]) [] [(.bin .add (.cst (.int 1)) (.cal 1 [(.var 0), (.cst (.int 3))]))])], none⟩
abbrev s__law_names : Stmt := top 19
def d__law_names : He.DefD := ⟨("_law_names", none), "_law_names", "_law_names", defArgs s__law_names, defBody s__law_names, defScope s__law_names, [], []⟩
/-- _law_kind(pool, names, choice) -/
def f__law_kind : FI := ⟨2, 3,
  [.set 2 (.cal 1 [(.var 0), (.cst (.int 6))]),
  .ife (.cmp .lt (.var 2) (.cst (.int 3)))
    [.ret (.ix (.lst [(.cst .non), (.cst (.str ['i', 'n', 't'])), (.cst (.str ['b', 'o', 'o', 'l']))]) (.var 2))]
    [],
  .ret (.tup [(.ix (.lst [(.cst (.str ['n', 'a', 'm', 'e'])), (.cst (.str ['d', 'u', 'a', 'l']))]) (.bin .mod (.var 2) (.cst (.int 2)))), (.ix (.var 1) (.cal 1 [(.var 0), (.blt .len [(.var 1)])]))])], none⟩
abbrev s__law_kind : Stmt := top 20
def d__law_kind : He.DefD := ⟨("_law_kind", none), "_law_kind", "_law_kind", defArgs s__law_kind, defBody s__law_kind, defScope s__law_kind, [], []⟩
/-- _law_label(pool) -/
def f__law_label : FI := ⟨1, 1,
  [.ret (.ix (.lst [(.cst (.str ['g', 'o'])), (.cst (.str ['g', 'o', 'o'])), (.cst (.str ['s', 't', 'o', 'p'])), (.cst (.str ['a'])), (.cst (.str ['b'])), (.cst (.str ['a', 't']))]) (.cal 1 [(.var 0), (.cst (.int 6))]))], none⟩
abbrev s__law_label : Stmt := top 21
def d__law_label : He.DefD := ⟨("_law_label", none), "_law_label", "_law_label", defArgs s__law_label, defBody s__law_label, defScope s__law_label, [], []⟩
/-- _law_talk(pool, names, depth, choice, rows, k, label, row, payload) -/
def f__law_talk : FI := ⟨3, 9,
  [.set 3 (.cal 1 [(.var 0), (.cst (.int 8))]),
  .ife (.cmp .eq (.var 3) (.cst (.int 0)))
    [.ret (.tup [(.cst (.str ['e', 'n', 'd']))])]
    [],
  .ife (.and (.cmp .lt (.var 3) (.cst (.int 3))) (.cmp .lt (.var 2) (.cst (.int 2))))
    [.ret (.tup [(.ix (.lst [(.cst (.str ['n', 'a', 'm', 'e'])), (.cst (.str ['d', 'u', 'a', 'l']))]) (.bin .mod (.var 3) (.cst (.int 2)))), (.ix (.var 1) (.cal 1 [(.var 0), (.blt .len [(.var 1)])]))])]
    [],
  .ife (.cmp .eq (.var 2) (.cst (.int 0)))
    [.ret (.bin .add (.tup [(.ix (.lst [(.cst (.str ['n', 'a', 'm', 'e'])), (.cst (.str ['d', 'u', 'a', 'l'])), (.cst (.str ['e', 'n', 'd']))]) (.bin .mod (.var 3) (.cst (.int 3))))]) (.slc (.tup [(.ix (.var 1) (.cal 1 [(.var 0), (.blt .len [(.var 1)])]))]) [] [(.blt .int [(.cmp .lt (.bin .mod (.var 3) (.cst (.int 3))) (.cst (.int 2)))])]))]
    [],
  .set 4 (.lst []),
  .for_ (.nm 5) .rng1 [(.bin .add (.cst (.int 1)) (.cal 1 [(.var 0), (.cst (.int 3))]))]
    [.set 6 (.cal 5 [(.var 0)]),
    .ife (.cmp .nin (.var 6) (.lc [7] (.nm 7) .seq [(.var 4)] [] (.ix (.var 7) (.cst (.int 0)))))
      [.set 8 (.cal 4 [(.var 0), (.var 1)]),
      .expr (.met (.var 4) "append" [(.tup [(.var 6), (.var 8), (.cal 6 [(.var 0), (.var 1), (.bin .sub (.var 2) (.cst (.int 1)))])])])]
      []],
  .ret (.tup [(.ix (.lst [(.cst (.str ['s', 'a', 'y'])), (.cst (.str ['h', 'e', 'a', 'r']))]) (.bin .mod (.var 3) (.cst (.int 2)))), (.blt .tuple [(.var 4)])])], none⟩
abbrev s__law_talk : Stmt := top 22
def d__law_talk : He.DefD := ⟨("_law_talk", none), "_law_talk", "_law_talk", defArgs s__law_talk, defBody s__law_talk, defScope s__law_talk, [], []⟩
/-- _law_table(pool, names, table, k, talk) -/
def f__law_table : FI := ⟨1, 5,
  [.set 1 (.cal 3 [(.var 0)]),
  .set 2 (.dic false [] []),
  .for_ (.nm 3) .rng1 [(.blt .len [(.var 1)])]
    [.set 4 (.cal 6 [(.var 0), (.var 1), (.cst (.int 2))]),
    .ife (.and (.cmp .eq (.cal 1 [(.var 0), (.cst (.int 9))]) (.cst (.int 0))) (.cmp .lt (.bin .add (.var 3) (.cst (.int 1))) (.blt .len [(.var 1)])))
      [.set 4 (.tup [(.ix (.lst [(.cst (.str ['n', 'a', 'm', 'e'])), (.cst (.str ['d', 'u', 'a', 'l']))]) (.cal 1 [(.var 0), (.cst (.int 2))])), (.ix (.var 1) (.bin .add (.var 3) (.cst (.int 1))))])]
      [],
    .put (.var 2) (.ix (.var 1) (.var 3)) (.var 4)],
  .ret (.var 2)], none⟩
abbrev s__law_table : Stmt := top 23
def d__law_table : He.DefD := ⟨("_law_table", none), "_law_table", "_law_table", defArgs s__law_table, defBody s__law_table, defScope s__law_table, [], []⟩
/-- _law_dual(talk, rows, row) -/
def f__law_dual : FI := ⟨1, 3,
  [.ife (.cmp .eq (.ix (.var 0) (.cst (.int 0))) (.cst (.str ['n', 'a', 'm', 'e'])))
    [.ret (.tup [(.cst (.str ['d', 'u', 'a', 'l'])), (.ix (.var 0) (.cst (.int 1)))])]
    [],
  .ife (.cmp .eq (.ix (.var 0) (.cst (.int 0))) (.cst (.str ['d', 'u', 'a', 'l'])))
    [.ret (.tup [(.cst (.str ['n', 'a', 'm', 'e'])), (.ix (.var 0) (.cst (.int 1)))])]
    [],
  .ife (.cmp .eq (.ix (.var 0) (.cst (.int 0))) (.cst (.str ['e', 'n', 'd'])))
    [.ret (.tup [(.cst (.str ['e', 'n', 'd']))])]
    [],
  .set 1 (.blt .tuple [(.lc [2] (.nm 2) .seq [(.ix (.var 0) (.cst (.int 1)))] [] (.tup [(.ix (.var 2) (.cst (.int 0))), (.ix (.var 2) (.cst (.int 1))), (.cal 8 [(.ix (.var 2) (.cst (.int 2)))])]))]),
  .ife (.cmp .eq (.ix (.var 0) (.cst (.int 0))) (.cst (.str ['s', 'a', 'y'])))
    [.ret (.tup [(.cst (.str ['h', 'e', 'a', 'r'])), (.var 1)])]
    [],
  .ret (.tup [(.cst (.str ['s', 'a', 'y'])), (.var 1)])], none⟩
abbrev s__law_dual : Stmt := top 24
def d__law_dual : He.DefD := ⟨("_law_dual", none), "_law_dual", "_law_dual", defArgs s__law_dual, defBody s__law_dual, defScope s__law_dual, [], []⟩
/-- _law_head(table, talk) -/
def f__law_head : FI := ⟨2, 2,
  [.ife (.cmp .eq (.ix (.var 1) (.cst (.int 0))) (.cst (.str ['n', 'a', 'm', 'e'])))
    [.ret (.cal 9 [(.var 0), (.ix (.var 0) (.ix (.var 1) (.cst (.int 1))))])]
    [],
  .ife (.cmp .eq (.ix (.var 1) (.cst (.int 0))) (.cst (.str ['d', 'u', 'a', 'l'])))
    [.ret (.cal 8 [(.cal 9 [(.var 0), (.ix (.var 0) (.ix (.var 1) (.cst (.int 1))))])])]
    [],
  .ret (.var 1)], none⟩
abbrev s__law_head : Stmt := top 25
def d__law_head : He.DefD := ⟨("_law_head", none), "_law_head", "_law_head", defArgs s__law_head, defBody s__law_head, defScope s__law_head, [], []⟩
/-- _law_row(talk, label, row) -/
def f__law_row : FI := ⟨2, 3,
  [.ife (.or (.cmp .eq (.ix (.var 0) (.cst (.int 0))) (.cst (.str ['s', 'a', 'y']))) (.cmp .eq (.ix (.var 0) (.cst (.int 0))) (.cst (.str ['h', 'e', 'a', 'r']))))
    [.for_ (.nm 2) .seq [(.ix (.var 0) (.cst (.int 1)))]
      [.ife (.cmp .eq (.ix (.var 2) (.cst (.int 0))) (.var 1))
        [.ret (.var 2)]
        []]]
    [],
  .ret (.cst .non)], none⟩
abbrev s__law_row : Stmt := top 26
def d__law_row : He.DefD := ⟨("_law_row", none), "_law_row", "_law_row", defArgs s__law_row, defBody s__law_row, defScope s__law_row, [], []⟩
/-- stands_for_another(talk) -/
def f_stands_for_another : FI := ⟨1, 1,
  [.ret (.or (.cmp .eq (.ix (.var 0) (.cst (.int 0))) (.cst (.str ['n', 'a', 'm', 'e']))) (.cmp .eq (.ix (.var 0) (.cst (.int 0))) (.cst (.str ['d', 'u', 'a', 'l']))))], none⟩
abbrev s_stands_for_another : Stmt := top 2
def d_stands_for_another : He.DefD := ⟨("stands_for_another", none), "stands_for_another", "stands_for_another", defArgs s_stands_for_another, defBody s_stands_for_another, defScope s_stands_for_another, [], []⟩
/-- dual(talk, rows, label, payload, after) -/
def f_dual : FI := ⟨1, 5,
  [.ife (.cal 11 [(.var 0)])
    [.ret (.cal 13 [(.var 0)])]
    [],
  .ife (.cmp .eq (.ix (.var 0) (.cst (.int 0))) (.cst (.str ['e', 'n', 'd'])))
    [.ret (.var 0)]
    [],
  .set 1 (.lst []),
  .for_ (.tp [2, 3, 4]) .seq [(.ix (.var 0) (.cst (.int 1)))]
    [.expr (.met (.var 1) "append" [(.tup [(.var 2), (.var 3), (.cal 12 [(.var 4)])])])],
  .ret (.tup [(.ife (.cmp .eq (.ix (.var 0) (.cst (.int 0))) (.cst (.str ['s', 'a', 'y']))) (.cst (.str ['h', 'e', 'a', 'r'])) (.cst (.str ['s', 'a', 'y']))), (.blt .tuple [(.var 1)])])], none⟩
abbrev s_dual : Stmt := top 4
def d_dual : He.DefD := ⟨("dual", none), "dual", "dual", defArgs s_dual, defBody s_dual, defScope s_dual, [], []⟩
/-- dual_kind(kind) -/
def f_dual_kind : FI := ⟨1, 1,
  [.ret (.tup [(.ife (.cmp .eq (.ix (.var 0) (.cst (.int 0))) (.cst (.str ['n', 'a', 'm', 'e']))) (.cst (.str ['d', 'u', 'a', 'l'])) (.cst (.str ['n', 'a', 'm', 'e']))), (.ix (.var 0) (.cst (.int 1)))])], none⟩
abbrev s_dual_kind : Stmt := top 5
def d_dual_kind : He.DefD := ⟨("dual_kind", none), "dual_kind", "dual_kind", defArgs s_dual_kind, defBody s_dual_kind, defScope s_dual_kind, [], []⟩
/-- rows_of(talk) -/
def f_rows_of : FI := ⟨1, 1,
  [.ret (.ife (.or (.cmp .eq (.ix (.var 0) (.cst (.int 0))) (.cst (.str ['s', 'a', 'y']))) (.cmp .eq (.ix (.var 0) (.cst (.int 0))) (.cst (.str ['h', 'e', 'a', 'r'])))) (.ix (.var 0) (.cst (.int 1))) (.tup []))], none⟩
abbrev s_rows_of : Stmt := top 3
def d_rows_of : He.DefD := ⟨("rows_of", none), "rows_of", "rows_of", defArgs s_rows_of, defBody s_rows_of, defScope s_rows_of, [], []⟩
/-- head(table, talk, turned) -/
def f_head : FI := ⟨2, 3,
  [.set 2 (.cst (.bl false)),
  .whl (.cal 11 [(.var 1)])
    [.ife (.cmp .eq (.ix (.var 1) (.cst (.int 0))) (.cst (.str ['d', 'u', 'a', 'l'])))
      [.set 2 (.not (.var 2))]
      [],
    .set 1 (.ix (.var 0) (.ix (.var 1) (.cst (.int 1))))],
  .ret (.ife (.var 2) (.cal 12 [(.var 1)]) (.var 1))], none⟩
abbrev s_head : Stmt := top 6
def d_head : He.DefD := ⟨("head", none), "head", "head", defArgs s_head, defBody s_head, defScope s_head, [], []⟩
/-- row_of(talk, label, row) -/
def f_row_of : FI := ⟨2, 3,
  [.for_ (.nm 2) .seq [(.cal 14 [(.var 0)])]
    [.ife (.cmp .eq (.ix (.var 2) (.cst (.int 0))) (.var 1))
      [.ret (.var 2)]
      []],
  .ret (.cst .non)], none⟩
abbrev s_row_of : Stmt := top 7
def d_row_of : He.DefD := ⟨("row_of", none), "row_of", "row_of", defArgs s_row_of, defBody s_row_of, defScope s_row_of, [], []⟩
/-- _wall(k) -/
def f__wall : FI := ⟨1, 1,
  [.whl (.cst (.bl true))
    [.pass]], none⟩
abbrev s__wall : Stmt := top 0
def d__wall : He.DefD := ⟨("_wall", none), "_wall", "_wall", defArgs s__wall, defBody s__wall, defScope s__wall, [], []⟩
/-- is_subtalk(table, one, two) -/
def f_is_subtalk : FI := ⟨3, 3,
  [.ret (.cmp .is_ (.cal 19 [(.var 0), (.var 1), (.var 2)]) (.cst .non))], none⟩
abbrev s_is_subtalk : Stmt := top 12
def d_is_subtalk : He.DefD := ⟨("is_subtalk", none), "is_subtalk", "is_subtalk", defArgs s_is_subtalk, defBody s_is_subtalk, defScope s_is_subtalk, [], []⟩
/-- wrong_path(table, one, two, pairs) -/
def f_wrong_path : FI := ⟨3, 4,
  [.set 3 (.new 1 [(.var 0)]),
  .expr (.met (.var 3) "begin" [(.var 1), (.var 2)]),
  .ret (.mml 1 (.var 3) "first_wrong" 36 35 [(.var 3)])], none⟩
abbrev s_wrong_path : Stmt := top 13
def d_wrong_path : He.DefD := ⟨("wrong_path", none), "wrong_path", "wrong_path", defArgs s_wrong_path, defBody s_wrong_path, defScope s_wrong_path, [], []⟩
/-- visit(pairs, at, one, two, says, asked, given, label, payload, after, row) -/
def f_visit : FI := ⟨2, 11,
  [.setT [2, 3] (.met (.var 0) "heads_at" [(.var 1)]),
  .ife (.cmp .ne (.ix (.var 2) (.cst (.int 0))) (.ix (.var 3) (.cst (.int 0))))
    [.ret (.tup [(.cst (.str ['h', 'e', 'a', 'd']))])]
    [],
  .set 4 (.cmp .eq (.ix (.var 2) (.cst (.int 0))) (.cst (.str ['s', 'a', 'y']))),
  .setT [5, 6] (.ife (.var 4) (.tup [(.var 3), (.var 2)]) (.tup [(.var 2), (.var 3)])),
  .for_ (.tp [7, 8, 9]) .seq [(.cal 14 [(.var 5)])]
    [.set 10 (.cal 16 [(.var 6), (.var 7)]),
    .ife (.cmp .is_ (.var 10) (.cst .non))
      [.ret (.tup [(.cst (.str ['m', 'i', 's', 's', 'i', 'n', 'g'])), (.var 7)])]
      [],
    .ife (.and (.blt .isTup [(.var 8)]) (.blt .isTup [(.ix (.var 10) (.cst (.int 1)))]))
      [.expr (.met (.var 0) "reach" [(.var 8), (.ix (.var 10) (.cst (.int 1))), (.var 1), (.tup [(.var 7), (.cst (.str ['p', 'a', 'y', 'l', 'o', 'a', 'd']))])])]
      [.ife (.cmp .ne (.var 8) (.ix (.var 10) (.cst (.int 1))))
        [.ret (.tup [(.cst (.str ['p', 'a', 'y', 'l', 'o', 'a', 'd'])), (.var 7)])]
        []],
    .ife (.var 4)
      [.expr (.met (.var 0) "reach" [(.ix (.var 10) (.cst (.int 2))), (.var 9), (.var 1), (.tup [(.var 7), (.cst (.str ['n', 'e', 'x', 't']))])])]
      [.expr (.met (.var 0) "reach" [(.var 9), (.ix (.var 10) (.cst (.int 2))), (.var 1), (.tup [(.var 7), (.cst (.str ['n', 'e', 'x', 't']))])])]],
  .ret (.cst .non)], none⟩
abbrev s_visit : Stmt := top 14
def d_visit : He.DefD := ⟨("visit", none), "visit", "visit", defArgs s_visit, defBody s_visit, defScope s_visit, [], []⟩
/-- _law_near(pool, table, talk, rows, row, choice, payload, label) -/
def f__law_near : FI := ⟨3, 8,
  [.ife (.or (.cmp .eq (.ix (.var 2) (.cst (.int 0))) (.cst (.str ['e', 'n', 'd']))) (.or (.cmp .eq (.ix (.var 2) (.cst (.int 0))) (.cst (.str ['n', 'a', 'm', 'e']))) (.cmp .eq (.ix (.var 2) (.cst (.int 0))) (.cst (.str ['d', 'u', 'a', 'l'])))))
    [.ife (.cmp .eq (.cal 1 [(.var 0), (.cst (.int 6))]) (.cst (.int 0)))
      [.ret (.cal 6 [(.var 0), (.blt .list [(.var 1)]), (.cst (.int 1))])]
      [],
    .ret (.var 2)]
    [],
  .set 3 (.lst []),
  .for_ (.nm 4) .seq [(.ix (.var 2) (.cst (.int 1)))]
    [.set 5 (.cal 1 [(.var 0), (.cst (.int 9))]),
    .set 6 (.ix (.var 4) (.cst (.int 1))),
    .ife (.cmp .eq (.var 5) (.cst (.int 1)))
      [.set 6 (.cal 4 [(.var 0), (.blt .list [(.var 1)])])]
      [],
    .ife (.or (.cmp .gt (.var 5) (.cst (.int 0))) (.not (.var 3)))
      [.expr (.met (.var 3) "append" [(.tup [(.ix (.var 4) (.cst (.int 0))), (.var 6), (.cal 21 [(.var 0), (.var 1), (.ix (.var 4) (.cst (.int 2)))])])])]
      []],
  .set 7 (.cal 5 [(.var 0)]),
  .ife (.and (.cmp .eq (.cal 1 [(.var 0), (.cst (.int 5))]) (.cst (.int 0))) (.cmp .nin (.var 7) (.lc [4] (.nm 4) .seq [(.var 3)] [] (.ix (.var 4) (.cst (.int 0))))))
    [.expr (.met (.var 3) "append" [(.tup [(.var 7), (.cal 4 [(.var 0), (.blt .list [(.var 1)])]), (.cal 6 [(.var 0), (.blt .list [(.var 1)]), (.cst (.int 1))])])])]
    [],
  .ife (.cmp .eq (.cal 1 [(.var 0), (.cst (.int 4))]) (.cst (.int 0)))
    [.expr (.met (.var 3) "reverse" [])]
    [],
  .ret (.tup [(.ix (.var 2) (.cst (.int 0))), (.blt .tuple [(.var 3)])])], none⟩
abbrev s__law_near : Stmt := top 27
def d__law_near : He.DefD := ⟨("_law_near", none), "_law_near", "_law_near", defArgs s__law_near, defBody s__law_near, defScope s__law_near, [], []⟩
/-- _law_two(pool, table, first, way) -/
def f__law_two : FI := ⟨2, 4,
  [.set 2 (.cal 6 [(.var 0), (.blt .list [(.var 1)]), (.cst (.int 2))]),
  .ife (.cmp .eq (.cal 1 [(.var 0), (.cst (.int 2))]) (.cst (.int 0)))
    [.set 2 (.tup [(.cst (.str ['n', 'a', 'm', 'e'])), (.ix (.blt .list [(.var 1)]) (.cal 1 [(.var 0), (.blt .len [(.var 1)])]))])]
    [],
  .set 3 (.cal 1 [(.var 0), (.cst (.int 4))]),
  .ife (.cmp .eq (.var 3) (.cst (.int 0)))
    [.ret (.lst [(.var 2), (.cal 6 [(.var 0), (.blt .list [(.var 1)]), (.cst (.int 2))])])]
    [],
  .ife (.cmp .eq (.var 3) (.cst (.int 1)))
    [.ret (.lst [(.var 2), (.cal 9 [(.var 1), (.var 2)])])]
    [],
  .ret (.lst [(.var 2), (.cal 21 [(.var 0), (.var 1), (.cal 9 [(.var 1), (.var 2)])])])], none⟩
abbrev s__law_two : Stmt := top 28
def d__law_two : He.DefD := ⟨("_law_two", none), "_law_two", "_law_two", defArgs s__law_two, defBody s__law_two, defScope s__law_two, [], []⟩
/-- law(script, pool, table, two, three, one, whole, other, told, last) -/
def f_law : FI := ⟨1, 10,
  [.set 1 (.cal 2 [(.var 0)]),
  .set 2 (.cal 7 [(.var 1)]),
  .set 3 (.cal 22 [(.var 1), (.var 2)]),
  .set 4 (.bin .add (.var 3) (.lst [(.cal 21 [(.var 1), (.var 2), (.cal 9 [(.var 2), (.ix (.var 3) (.cst (.int 1)))])])])),
  .for_ (.nm 5) .seq [(.var 4)]
    [.set 6 (.cal 9 [(.var 2), (.var 5)]),
    .ife (.or (.not (.cal 18 [(.var 2), (.var 5), (.var 5)])) (.or (.not (.cal 18 [(.var 2), (.var 5), (.var 6)])) (.not (.cal 18 [(.var 2), (.var 6), (.var 5)]))))
      [.ret (.cst (.bl false))]
      [],
    .for_ (.nm 7) .seq [(.var 4)]
      [.set 8 (.cal 18 [(.var 2), (.var 5), (.var 7)]),
      .ife (.or (.not (.blt .isBool [(.var 8)])) (.cmp .ne (.var 8) (.cal 18 [(.var 2), (.cal 8 [(.var 7)]), (.cal 8 [(.var 5)])])))
        [.ret (.cst (.bl false))]
        [],
      .for_ (.nm 9) .seq [(.var 4)]
        [.ife (.and (.var 8) (.and (.cal 18 [(.var 2), (.var 7), (.var 9)]) (.not (.cal 18 [(.var 2), (.var 5), (.var 9)]))))
          [.ret (.cst (.bl false))]
          []]]],
  .ret (.cst (.bl true))], none⟩
abbrev s_law : Stmt := top 29
def d_law : He.DefD := ⟨("law", none), "law", "law", defArgs s_law, defBody s_law, defScope s_law, [], []⟩
/-- Heads_init(self, table) -/
def f_Heads_init : FI := ⟨2, 2,
  [.fset (.var 0) "_source" (.var 1),
  .fset (.var 0) "_numbers" (.dic false [] []),
  .fset (.var 0) "_met" (.lst [])], none⟩
abbrev s_Heads_init : Stmt := mth 8 0
def d_Heads_init : He.DefD := ⟨("Heads", some "__init__"), "__init__", "Heads.__init__", defArgs s_Heads_init, defBody s_Heads_init, defScope s_Heads_init, [], []⟩
/-- Heads_number_of(self, talk, text) -/
def f_Heads_number_of : FI := ⟨2, 3,
  [.set 2 (.blt .repr [(.var 1)]),
  .ife (.cmp .nin (.var 2) (.fld (.var 0) "_numbers"))
    [.put (.fld (.var 0) "_numbers") (.var 2) (.met (.var 0) "_head_number" [(.cal 15 [(.fld (.var 0) "_source"), (.var 1)])])]
    [],
  .ret (.ix (.fld (.var 0) "_numbers") (.var 2))], none⟩
abbrev s_Heads_number_of : Stmt := mth 8 1
def d_Heads_number_of : He.DefD := ⟨("Heads", some "number_of"), "number_of", "Heads.number_of", defArgs s_Heads_number_of, defBody s_Heads_number_of, defScope s_Heads_number_of, [], []⟩
/-- Heads_head_number(self, found, text) -/
def f_Heads_head_number : FI := ⟨2, 3,
  [.set 2 (.blt .repr [(.var 1)]),
  .ife (.cmp .nin (.var 2) (.fld (.var 0) "_numbers"))
    [.put (.fld (.var 0) "_numbers") (.var 2) (.blt .len [(.fld (.var 0) "_met")]),
    .expr (.met (.fld (.var 0) "_met") "append" [(.var 1)])]
    [],
  .ret (.ix (.fld (.var 0) "_numbers") (.var 2))], none⟩
abbrev s_Heads_head_number : Stmt := mth 8 2
def d_Heads_head_number : He.DefD := ⟨("Heads", some "_head_number"), "_head_number", "Heads._head_number", defArgs s_Heads_head_number, defBody s_Heads_head_number, defScope s_Heads_head_number, [], []⟩
/-- Heads_head_at(self, number) -/
def f_Heads_head_at : FI := ⟨2, 2,
  [.ret (.ix (.fld (.var 0) "_met") (.var 1))], none⟩
abbrev s_Heads_head_at : Stmt := mth 8 3
def d_Heads_head_at : He.DefD := ⟨("Heads", some "head_at"), "head_at", "Heads.head_at", defArgs s_Heads_head_at, defBody s_Heads_head_at, defScope s_Heads_head_at, [], []⟩
/-- Heads_many(self) -/
def f_Heads_many : FI := ⟨1, 1,
  [.expr (.cal 17 [(.cst (.int 0))])], none⟩
abbrev s_Heads_many : Stmt := mth 8 4
def d_Heads_many : He.DefD := ⟨("Heads", some "many"), "many", "Heads.many", defArgs s_Heads_many, defBody s_Heads_many, defScope s_Heads_many, [], []⟩
/-- Pairs_init(self, table) -/
def f_Pairs_init : FI := ⟨2, 2,
  [.fset (.var 0) "_heads" (.new 0 [(.var 1)]),
  .fset (.var 0) "_known" (.dic true [] []),
  .fset (.var 0) "_reached" (.lst []),
  .fset (.var 0) "_origins" (.lst []),
  .fset (.var 0) "_visited" (.cst (.int 0))], none⟩
abbrev s_Pairs_init : Stmt := mth 10 0
def d_Pairs_init : He.DefD := ⟨("Pairs", some "__init__"), "__init__", "Pairs.__init__", defArgs s_Pairs_init, defBody s_Pairs_init, defScope s_Pairs_init, [], []⟩
/-- Pairs_begin(self, one, two) -/
def f_Pairs_begin : FI := ⟨3, 3,
  [.expr (.met (.var 0) "reach" [(.var 1), (.var 2), (.cst .non), (.cst .non)])], none⟩
abbrev s_Pairs_begin : Stmt := mth 10 1
def d_Pairs_begin : He.DefD := ⟨("Pairs", some "begin"), "begin", "Pairs.begin", defArgs s_Pairs_begin, defBody s_Pairs_begin, defScope s_Pairs_begin, [], []⟩
/-- Pairs_reach(self, one, two, origin, step, pair) -/
def f_Pairs_reach : FI := ⟨5, 6,
  [.set 5 (.tup [(.met (.fld (.var 0) "_heads") "number_of" [(.var 1)]), (.met (.fld (.var 0) "_heads") "number_of" [(.var 2)])]),
  .ife (.cmp .nin (.var 5) (.fld (.var 0) "_known"))
    [.put (.fld (.var 0) "_known") (.var 5) (.cst (.bl true)),
    .expr (.met (.fld (.var 0) "_reached") "append" [(.var 5)]),
    .expr (.met (.fld (.var 0) "_origins") "append" [(.tup [(.var 3), (.var 4)])])]
    []], none⟩
abbrev s_Pairs_reach : Stmt := mth 10 2
def d_Pairs_reach : He.DefD := ⟨("Pairs", some "reach"), "reach", "Pairs.reach", defArgs s_Pairs_reach, defBody s_Pairs_reach, defScope s_Pairs_reach, [], []⟩
/-- Pairs_heads_at(self, index, one, two) -/
def f_Pairs_heads_at : FI := ⟨2, 4,
  [.setT [2, 3] (.ix (.fld (.var 0) "_reached") (.var 1)),
  .ret (.tup [(.met (.fld (.var 0) "_heads") "head_at" [(.var 2)]), (.met (.fld (.var 0) "_heads") "head_at" [(.var 3)])])], none⟩
abbrev s_Pairs_heads_at : Stmt := mth 10 3
def d_Pairs_heads_at : He.DefD := ⟨("Pairs", some "heads_at"), "heads_at", "Pairs.heads_at", defArgs s_Pairs_heads_at, defBody s_Pairs_heads_at, defScope s_Pairs_heads_at, [], []⟩
/-- Pairs_first_wrong(self, visit, reason) -/
def f_Pairs_first_wrong : FI := ⟨2, 3,
  [.whl (.cmp .lt (.fld (.var 0) "_visited") (.blt .len [(.fld (.var 0) "_reached")]))
    [.set 2 (.cav 1 [(.fld (.var 0) "_visited")]),
    .ife (.cmp .isn (.var 2) (.cst .non))
      [.ret (.tup [(.met (.var 0) "_steps_to" [(.fld (.var 0) "_visited")]), (.var 2)])]
      [],
    .faug (.var 0) "_visited" .add (.cst (.int 1))],
  .ret (.cst .non)], none⟩
abbrev s_Pairs_first_wrong : Stmt := mth 10 4
def d_Pairs_first_wrong : He.DefD := ⟨("Pairs", some "first_wrong"), "first_wrong", "Pairs.first_wrong", defArgs s_Pairs_first_wrong, defBody s_Pairs_first_wrong, defScope s_Pairs_first_wrong, [], []⟩
/-- Pairs_steps_to(self, index, steps, origin, step) -/
def f_Pairs_steps_to : FI := ⟨2, 5,
  [.set 2 (.lst []),
  .setT [3, 4] (.ix (.fld (.var 0) "_origins") (.var 1)),
  .whl (.cmp .isn (.var 3) (.cst .non))
    [.expr (.met (.var 2) "append" [(.var 4)]),
    .setT [3, 4] (.ix (.fld (.var 0) "_origins") (.var 3))],
  .ret (.blt .tuple [(.back (.var 2))])], none⟩
abbrev s_Pairs_steps_to : Stmt := mth 10 5
def d_Pairs_steps_to : He.DefD := ⟨("Pairs", some "_steps_to"), "_steps_to", "Pairs._steps_to", defArgs s_Pairs_steps_to, defBody s_Pairs_steps_to, defScope s_Pairs_steps_to, [], []⟩
def e_lam_wrong_path : E := (.cal 20 [(.var 0), (.var 1)])
def f_lam_wrong_path : FI := ⟨2, 2, [.ret e_lam_wrong_path], none⟩
/-- Pairs_first_wrong(self, visit, reason), a lambda at the end -/
def f_vir_wrong_path : FI := ⟨2, 3,
  [.whl (.cmp .lt (.fld (.var 0) "_visited") (.blt .len [(.fld (.var 0) "_reached")]))
    [.set 2 (.cvl 1 [(.fld (.var 0) "_visited")]),
    .ife (.cmp .isn (.var 2) (.cst .non))
      [.ret (.tup [(.met (.var 0) "_steps_to" [(.fld (.var 0) "_visited")]), (.var 2)])]
      [],
    .faug (.var 0) "_visited" .add (.cst (.int 1))],
  .ret (.cst .non)], some (1, 35, 1)⟩
def fns : List FI := [f__law_wide, f__law_take, f__law_pool, f__law_names, f__law_kind, f__law_label, f__law_talk, f__law_table, f__law_dual, f__law_head, f__law_row, f_stands_for_another, f_dual, f_dual_kind, f_rows_of, f_head, f_row_of, f__wall, f_is_subtalk, f_wrong_path, f_visit, f__law_near, f__law_two, f_law, f_Heads_init, f_Heads_number_of, f_Heads_head_number, f_Heads_head_at, f_Heads_many, f_Pairs_init, f_Pairs_begin, f_Pairs_reach, f_Pairs_heads_at, f_Pairs_first_wrong, f_Pairs_steps_to, f_lam_wrong_path, f_vir_wrong_path]
def defs : List He.DefD := [d__law_wide, d__law_take, d__law_pool, d__law_names, d__law_kind, d__law_label, d__law_talk, d__law_table, d__law_dual, d__law_head, d__law_row, d_stands_for_another, d_dual, d_dual_kind, d_rows_of, d_head, d_row_of, d__wall, d_is_subtalk, d_wrong_path, d_visit, d__law_near, d__law_two, d_law, d_Heads_init, d_Heads_number_of, d_Heads_head_number, d_Heads_head_at, d_Heads_many, d_Pairs_init, d_Pairs_begin, d_Pairs_reach, d_Pairs_heads_at, d_Pairs_first_wrong, d_Pairs_steps_to]
def exsI : List ExI := []
def clsI : List ClsI := [⟨"Heads", ⟨[("number_of", 25), ("_head_number", 26), ("head_at", 27), ("many", 28)], some 24, ["_source", "_numbers", "_met"]⟩⟩, ⟨"Pairs", ⟨[("begin", 30), ("reach", 31), ("heads_at", 32), ("first_wrong", 33), ("_steps_to", 34)], some 29, ["_heads", "_known", "_reached", "_origins", "_visited"]⟩⟩]
def pg : Pg := { fns := fns, names := nmF, cls := clsI, nw := [0, 1], snm := [], nums := [], exs := exsI, cons := [], isa := fun c k => decide ((c, k) ∈ []), tf := [(("wrong_path", none), "wrong_path")], vnm := [], vmt := [(36, 35, 1, "first_wrong")], lams := [(35, ["pairs"], ["at"], e_lam_wrong_path)] }
theorem ok__law_wide : DefOk pg.ck d__law_wide f__law_wide ("_law_wide", none) ["script", "k", "cell", "mixed"] ["script", "k"] := ⟨rfl, rfl, rfl, ⟨rfl, rfl, rfl, by decide +kernel, rfl, by decide +kernel, by decide +kernel⟩,
  fun _ _ _ _ _ _ us hl => match us, hl with | [_, _], _ => rfl, rfl, rfl, rfl, by decide +kernel⟩
theorem ok__law_take : DefOk pg.ck d__law_take f__law_take ("_law_take", none) ["pool", "most", "value"] ["pool", "most"] := ⟨rfl, rfl, rfl, ⟨rfl, rfl, rfl, by decide +kernel, rfl, by decide +kernel, by decide +kernel⟩,
  fun _ _ _ _ _ _ us hl => match us, hl with | [_, _], _ => rfl, rfl, rfl, rfl, by decide +kernel⟩
theorem ok__law_pool : DefOk pg.ck d__law_pool f__law_pool ("_law_pool", none) ["script"] ["script"] := ⟨rfl, rfl, rfl, ⟨rfl, rfl, rfl, by decide +kernel, rfl, by decide +kernel, by decide +kernel⟩,
  fun _ _ _ _ _ _ us hl => match us, hl with | [_], _ => rfl, rfl, rfl, rfl, by decide +kernel⟩
theorem ok__law_names : DefOk pg.ck d__law_names f__law_names ("_law_names", none) ["pool", "first", "second"] ["pool"] := ⟨rfl, rfl, rfl, ⟨rfl, rfl, rfl, by decide +kernel, rfl, by decide +kernel, by decide +kernel⟩,
  fun _ _ _ _ _ _ us hl => match us, hl with | [_], _ => rfl, rfl, rfl, rfl, by decide +kernel⟩
theorem ok__law_kind : DefOk pg.ck d__law_kind f__law_kind ("_law_kind", none) ["pool", "names", "choice"] ["pool", "names"] := ⟨rfl, rfl, rfl, ⟨rfl, rfl, rfl, by decide +kernel, rfl, by decide +kernel, by decide +kernel⟩,
  fun _ _ _ _ _ _ us hl => match us, hl with | [_, _], _ => rfl, rfl, rfl, rfl, by decide +kernel⟩
theorem ok__law_label : DefOk pg.ck d__law_label f__law_label ("_law_label", none) ["pool"] ["pool"] := ⟨rfl, rfl, rfl, ⟨rfl, rfl, rfl, by decide +kernel, rfl, by decide +kernel, by decide +kernel⟩,
  fun _ _ _ _ _ _ us hl => match us, hl with | [_], _ => rfl, rfl, rfl, rfl, by decide +kernel⟩
theorem ok__law_talk : DefOk pg.ck d__law_talk f__law_talk ("_law_talk", none) ["pool", "names", "depth", "choice", "rows", "k", "label", "row", "payload"] ["pool", "names", "depth"] := ⟨rfl, rfl, rfl, ⟨rfl, rfl, rfl, by decide +kernel, rfl, by decide +kernel, by decide +kernel⟩,
  fun _ _ _ _ _ _ us hl => match us, hl with | [_, _, _], _ => rfl, rfl, rfl, rfl, by decide +kernel⟩
theorem ok__law_table : DefOk pg.ck d__law_table f__law_table ("_law_table", none) ["pool", "names", "table", "k", "talk"] ["pool"] := ⟨rfl, rfl, rfl, ⟨rfl, rfl, rfl, by decide +kernel, rfl, by decide +kernel, by decide +kernel⟩,
  fun _ _ _ _ _ _ us hl => match us, hl with | [_], _ => rfl, rfl, rfl, rfl, by decide +kernel⟩
theorem ok__law_dual : DefOk pg.ck d__law_dual f__law_dual ("_law_dual", none) ["talk", "rows", "row"] ["talk"] := ⟨rfl, rfl, rfl, ⟨rfl, rfl, rfl, by decide +kernel, rfl, by decide +kernel, by decide +kernel⟩,
  fun _ _ _ _ _ _ us hl => match us, hl with | [_], _ => rfl, rfl, rfl, rfl, by decide +kernel⟩
theorem ok__law_head : DefOk pg.ck d__law_head f__law_head ("_law_head", none) ["table", "talk"] ["table", "talk"] := ⟨rfl, rfl, rfl, ⟨rfl, rfl, rfl, by decide +kernel, rfl, by decide +kernel, by decide +kernel⟩,
  fun _ _ _ _ _ _ us hl => match us, hl with | [_, _], _ => rfl, rfl, rfl, rfl, by decide +kernel⟩
theorem ok__law_row : DefOk pg.ck d__law_row f__law_row ("_law_row", none) ["talk", "label", "row"] ["talk", "label"] := ⟨rfl, rfl, rfl, ⟨rfl, rfl, rfl, by decide +kernel, rfl, by decide +kernel, by decide +kernel⟩,
  fun _ _ _ _ _ _ us hl => match us, hl with | [_, _], _ => rfl, rfl, rfl, rfl, by decide +kernel⟩
theorem ok_stands_for_another : DefOk pg.ck d_stands_for_another f_stands_for_another ("stands_for_another", none) ["talk"] ["talk"] := ⟨rfl, rfl, rfl, ⟨rfl, rfl, rfl, by decide +kernel, rfl, by decide +kernel, by decide +kernel⟩,
  fun _ _ _ _ _ _ us hl => match us, hl with | [_], _ => rfl, rfl, rfl, rfl, by decide +kernel⟩
theorem ok_dual : DefOk pg.ck d_dual f_dual ("dual", none) ["talk", "rows", "label", "payload", "after"] ["talk"] := ⟨rfl, rfl, rfl, ⟨rfl, rfl, rfl, by decide +kernel, rfl, by decide +kernel, by decide +kernel⟩,
  fun _ _ _ _ _ _ us hl => match us, hl with | [_], _ => rfl, rfl, rfl, rfl, by decide +kernel⟩
theorem ok_dual_kind : DefOk pg.ck d_dual_kind f_dual_kind ("dual_kind", none) ["kind"] ["kind"] := ⟨rfl, rfl, rfl, ⟨rfl, rfl, rfl, by decide +kernel, rfl, by decide +kernel, by decide +kernel⟩,
  fun _ _ _ _ _ _ us hl => match us, hl with | [_], _ => rfl, rfl, rfl, rfl, by decide +kernel⟩
theorem ok_rows_of : DefOk pg.ck d_rows_of f_rows_of ("rows_of", none) ["talk"] ["talk"] := ⟨rfl, rfl, rfl, ⟨rfl, rfl, rfl, by decide +kernel, rfl, by decide +kernel, by decide +kernel⟩,
  fun _ _ _ _ _ _ us hl => match us, hl with | [_], _ => rfl, rfl, rfl, rfl, by decide +kernel⟩
theorem ok_head : DefOk pg.ck d_head f_head ("head", none) ["table", "talk", "turned"] ["table", "talk"] := ⟨rfl, rfl, rfl, ⟨rfl, rfl, rfl, by decide +kernel, rfl, by decide +kernel, by decide +kernel⟩,
  fun _ _ _ _ _ _ us hl => match us, hl with | [_, _], _ => rfl, rfl, rfl, rfl, by decide +kernel⟩
theorem ok_row_of : DefOk pg.ck d_row_of f_row_of ("row_of", none) ["talk", "label", "row"] ["talk", "label"] := ⟨rfl, rfl, rfl, ⟨rfl, rfl, rfl, by decide +kernel, rfl, by decide +kernel, by decide +kernel⟩,
  fun _ _ _ _ _ _ us hl => match us, hl with | [_, _], _ => rfl, rfl, rfl, rfl, by decide +kernel⟩
theorem ok__wall : DefOk pg.ck d__wall f__wall ("_wall", none) ["k"] ["k"] := ⟨rfl, rfl, rfl, ⟨rfl, rfl, rfl, by decide +kernel, rfl, by decide +kernel, by decide +kernel⟩,
  fun _ _ _ _ _ _ us hl => match us, hl with | [_], _ => rfl, rfl, rfl, rfl, by decide +kernel⟩
theorem ok_is_subtalk : DefOk pg.ck d_is_subtalk f_is_subtalk ("is_subtalk", none) ["table", "one", "two"] ["table", "one", "two"] := ⟨rfl, rfl, rfl, ⟨rfl, rfl, rfl, by decide +kernel, rfl, by decide +kernel, by decide +kernel⟩,
  fun _ _ _ _ _ _ us hl => match us, hl with | [_, _, _], _ => rfl, rfl, rfl, rfl, by decide +kernel⟩
theorem ok_wrong_path : DefOk pg.ck d_wrong_path f_wrong_path ("wrong_path", none) ["table", "one", "two", "pairs"] ["table", "one", "two"] := ⟨rfl, rfl, rfl, ⟨rfl, rfl, rfl, by decide +kernel, rfl, by decide +kernel, by decide +kernel⟩,
  fun _ _ _ _ _ _ us hl => match us, hl with | [_, _, _], _ => rfl, rfl, rfl, rfl, by decide +kernel⟩
theorem ok_visit : DefOk pg.ck d_visit f_visit ("visit", none) ["pairs", "at", "one", "two", "says", "asked", "given", "label", "payload", "after", "row"] ["pairs", "at"] := ⟨rfl, rfl, rfl, ⟨rfl, rfl, rfl, by decide +kernel, rfl, by decide +kernel, by decide +kernel⟩,
  fun _ _ _ _ _ _ us hl => match us, hl with | [_, _], _ => rfl, rfl, rfl, rfl, by decide +kernel⟩
theorem ok__law_near : DefOk pg.ck d__law_near f__law_near ("_law_near", none) ["pool", "table", "talk", "rows", "row", "choice", "payload", "label"] ["pool", "table", "talk"] := ⟨rfl, rfl, rfl, ⟨rfl, rfl, rfl, by decide +kernel, rfl, by decide +kernel, by decide +kernel⟩,
  fun _ _ _ _ _ _ us hl => match us, hl with | [_, _, _], _ => rfl, rfl, rfl, rfl, by decide +kernel⟩
theorem ok__law_two : DefOk pg.ck d__law_two f__law_two ("_law_two", none) ["pool", "table", "first", "way"] ["pool", "table"] := ⟨rfl, rfl, rfl, ⟨rfl, rfl, rfl, by decide +kernel, rfl, by decide +kernel, by decide +kernel⟩,
  fun _ _ _ _ _ _ us hl => match us, hl with | [_, _], _ => rfl, rfl, rfl, rfl, by decide +kernel⟩
theorem ok_law : DefOk pg.ck d_law f_law ("law", none) ["script", "pool", "table", "two", "three", "one", "whole", "other", "told", "last"] ["script"] := ⟨rfl, rfl, rfl, ⟨rfl, rfl, rfl, by decide +kernel, rfl, by decide +kernel, by decide +kernel⟩,
  fun _ _ _ _ _ _ us hl => match us, hl with | [_], _ => rfl, rfl, rfl, rfl, by decide +kernel⟩
theorem ok_Heads_init : DefOk pg.ck d_Heads_init f_Heads_init ("Heads", some "__init__") ["self", "table"] ["self", "table"] := ⟨rfl, rfl, rfl, ⟨rfl, rfl, rfl, by decide +kernel, rfl, by decide +kernel, by decide +kernel⟩,
  fun _ _ _ _ _ _ us hl => match us, hl with | [_, _], _ => rfl, rfl, rfl, rfl, by decide +kernel⟩
theorem ok_Heads_number_of : DefOk pg.ck d_Heads_number_of f_Heads_number_of ("Heads", some "number_of") ["self", "talk", "text"] ["self", "talk"] := ⟨rfl, rfl, rfl, ⟨rfl, rfl, rfl, by decide +kernel, rfl, by decide +kernel, by decide +kernel⟩,
  fun _ _ _ _ _ _ us hl => match us, hl with | [_, _], _ => rfl, rfl, rfl, rfl, by decide +kernel⟩
theorem ok_Heads_head_number : DefOk pg.ck d_Heads_head_number f_Heads_head_number ("Heads", some "_head_number") ["self", "found", "text"] ["self", "found"] := ⟨rfl, rfl, rfl, ⟨rfl, rfl, rfl, by decide +kernel, rfl, by decide +kernel, by decide +kernel⟩,
  fun _ _ _ _ _ _ us hl => match us, hl with | [_, _], _ => rfl, rfl, rfl, rfl, by decide +kernel⟩
theorem ok_Heads_head_at : DefOk pg.ck d_Heads_head_at f_Heads_head_at ("Heads", some "head_at") ["self", "number"] ["self", "number"] := ⟨rfl, rfl, rfl, ⟨rfl, rfl, rfl, by decide +kernel, rfl, by decide +kernel, by decide +kernel⟩,
  fun _ _ _ _ _ _ us hl => match us, hl with | [_, _], _ => rfl, rfl, rfl, rfl, by decide +kernel⟩
theorem ok_Heads_many : DefOk pg.ck d_Heads_many f_Heads_many ("Heads", some "many") ["self"] ["self"] := ⟨rfl, rfl, rfl, ⟨rfl, rfl, rfl, by decide +kernel, rfl, by decide +kernel, by decide +kernel⟩,
  fun _ _ _ _ _ _ us hl => match us, hl with | [_], _ => rfl, rfl, rfl, rfl, by decide +kernel⟩
theorem ok_Pairs_init : DefOk pg.ck d_Pairs_init f_Pairs_init ("Pairs", some "__init__") ["self", "table"] ["self", "table"] := ⟨rfl, rfl, rfl, ⟨rfl, rfl, rfl, by decide +kernel, rfl, by decide +kernel, by decide +kernel⟩,
  fun _ _ _ _ _ _ us hl => match us, hl with | [_, _], _ => rfl, rfl, rfl, rfl, by decide +kernel⟩
theorem ok_Pairs_begin : DefOk pg.ck d_Pairs_begin f_Pairs_begin ("Pairs", some "begin") ["self", "one", "two"] ["self", "one", "two"] := ⟨rfl, rfl, rfl, ⟨rfl, rfl, rfl, by decide +kernel, rfl, by decide +kernel, by decide +kernel⟩,
  fun _ _ _ _ _ _ us hl => match us, hl with | [_, _, _], _ => rfl, rfl, rfl, rfl, by decide +kernel⟩
theorem ok_Pairs_reach : DefOk pg.ck d_Pairs_reach f_Pairs_reach ("Pairs", some "reach") ["self", "one", "two", "origin", "step", "pair"] ["self", "one", "two", "origin", "step"] := ⟨rfl, rfl, rfl, ⟨rfl, rfl, rfl, by decide +kernel, rfl, by decide +kernel, by decide +kernel⟩,
  fun _ _ _ _ _ _ us hl => match us, hl with | [_, _, _, _, _], _ => rfl, rfl, rfl, rfl, by decide +kernel⟩
theorem ok_Pairs_heads_at : DefOk pg.ck d_Pairs_heads_at f_Pairs_heads_at ("Pairs", some "heads_at") ["self", "index", "one", "two"] ["self", "index"] := ⟨rfl, rfl, rfl, ⟨rfl, rfl, rfl, by decide +kernel, rfl, by decide +kernel, by decide +kernel⟩,
  fun _ _ _ _ _ _ us hl => match us, hl with | [_, _], _ => rfl, rfl, rfl, rfl, by decide +kernel⟩
theorem ok_Pairs_first_wrong : DefOk pg.ck d_Pairs_first_wrong f_Pairs_first_wrong ("Pairs", some "first_wrong") ["self", "visit", "reason"] ["self", "visit"] := ⟨rfl, rfl, rfl, ⟨rfl, rfl, rfl, by decide +kernel, rfl, by decide +kernel, by decide +kernel⟩,
  fun _ _ _ _ _ _ us hl => match us, hl with | [_, _], _ => rfl, rfl, rfl, rfl, by decide +kernel⟩
theorem ok_Pairs_steps_to : DefOk pg.ck d_Pairs_steps_to f_Pairs_steps_to ("Pairs", some "_steps_to") ["self", "index", "steps", "origin", "step"] ["self", "index"] := ⟨rfl, rfl, rfl, ⟨rfl, rfl, rfl, by decide +kernel, rfl, by decide +kernel, by decide +kernel⟩,
  fun _ _ _ _ _ _ us hl => match us, hl with | [_, _], _ => rfl, rfl, rfl, rfl, by decide +kernel⟩
theorem okv_0 : DefOkV pg.ck d_Pairs_first_wrong f_vir_wrong_path 1 ("Pairs", some "first_wrong") ["self", "visit", "reason"] ["self", "visit"] := ⟨ok_Pairs_first_wrong.at_, ok_Pairs_first_wrong.dfl, ok_Pairs_first_wrong.kwd, ok_Pairs_first_wrong.S, ok_Pairs_first_wrong.hb, rfl, rfl, by decide +kernel⟩
theorem oks : ∀ (f : Nat) (x : Str), pg.names[f]? = some x → ∃ (fi : FI) (d : He.DefD) (N ps : List Str), pg.fns[f]? = some fi ∧ defs[f]? = some d ∧ DefOk pg.ck d fi (x, none) N ps
  | 0, _, e => by cases e; exact ⟨_, _, _, _, rfl, rfl, ok__law_wide⟩
  | 1, _, e => by cases e; exact ⟨_, _, _, _, rfl, rfl, ok__law_take⟩
  | 2, _, e => by cases e; exact ⟨_, _, _, _, rfl, rfl, ok__law_pool⟩
  | 3, _, e => by cases e; exact ⟨_, _, _, _, rfl, rfl, ok__law_names⟩
  | 4, _, e => by cases e; exact ⟨_, _, _, _, rfl, rfl, ok__law_kind⟩
  | 5, _, e => by cases e; exact ⟨_, _, _, _, rfl, rfl, ok__law_label⟩
  | 6, _, e => by cases e; exact ⟨_, _, _, _, rfl, rfl, ok__law_talk⟩
  | 7, _, e => by cases e; exact ⟨_, _, _, _, rfl, rfl, ok__law_table⟩
  | 8, _, e => by cases e; exact ⟨_, _, _, _, rfl, rfl, ok__law_dual⟩
  | 9, _, e => by cases e; exact ⟨_, _, _, _, rfl, rfl, ok__law_head⟩
  | 10, _, e => by cases e; exact ⟨_, _, _, _, rfl, rfl, ok__law_row⟩
  | 11, _, e => by cases e; exact ⟨_, _, _, _, rfl, rfl, ok_stands_for_another⟩
  | 12, _, e => by cases e; exact ⟨_, _, _, _, rfl, rfl, ok_dual⟩
  | 13, _, e => by cases e; exact ⟨_, _, _, _, rfl, rfl, ok_dual_kind⟩
  | 14, _, e => by cases e; exact ⟨_, _, _, _, rfl, rfl, ok_rows_of⟩
  | 15, _, e => by cases e; exact ⟨_, _, _, _, rfl, rfl, ok_head⟩
  | 16, _, e => by cases e; exact ⟨_, _, _, _, rfl, rfl, ok_row_of⟩
  | 17, _, e => by cases e; exact ⟨_, _, _, _, rfl, rfl, ok__wall⟩
  | 18, _, e => by cases e; exact ⟨_, _, _, _, rfl, rfl, ok_is_subtalk⟩
  | 19, _, e => by cases e; exact ⟨_, _, _, _, rfl, rfl, ok_wrong_path⟩
  | 20, _, e => by cases e; exact ⟨_, _, _, _, rfl, rfl, ok_visit⟩
  | 21, _, e => by cases e; exact ⟨_, _, _, _, rfl, rfl, ok__law_near⟩
  | 22, _, e => by cases e; exact ⟨_, _, _, _, rfl, rfl, ok__law_two⟩
  | 23, _, e => by cases e; exact ⟨_, _, _, _, rfl, rfl, ok_law⟩
  | _ + 24, _, e => by simp [pg, nmF] at e
theorem okp : pg.Ok defs := by
  refine ⟨oks, fun c k e q hq => ?_, fun c k e f hf => ?_, fun c hc => ?_, fun v j x hv => ?_, fun v j c m hv => ?_, fun j q hq => ?_, fun e he hf => ?_⟩
  · match c, e with
    | 0, e =>
      cases e
      simp only [List.mem_cons, List.not_mem_nil, or_false] at hq
      rcases hq with rfl | rfl | rfl | rfl
      · exact ⟨_, _, _, _, rfl, rfl, ok_Heads_number_of⟩
      · exact ⟨_, _, _, _, rfl, rfl, ok_Heads_head_number⟩
      · exact ⟨_, _, _, _, rfl, rfl, ok_Heads_head_at⟩
      · exact ⟨_, _, _, _, rfl, rfl, ok_Heads_many⟩
    | 1, e =>
      cases e
      simp only [List.mem_cons, List.not_mem_nil, or_false] at hq
      rcases hq with rfl | rfl | rfl | rfl | rfl
      · exact ⟨_, _, _, _, rfl, rfl, ok_Pairs_begin⟩
      · exact ⟨_, _, _, _, rfl, rfl, ok_Pairs_reach⟩
      · exact ⟨_, _, _, _, rfl, rfl, ok_Pairs_heads_at⟩
      · exact ⟨_, _, _, _, rfl, rfl, ok_Pairs_first_wrong⟩
      · exact ⟨_, _, _, _, rfl, rfl, ok_Pairs_steps_to⟩
    | _ + 2, e => simp [pg, clsI] at e
  · match c, e with
    | 0, e => cases e; cases hf; exact ⟨_, _, _, _, rfl, rfl, ok_Heads_init⟩
    | 1, e => cases e; cases hf; exact ⟨_, _, _, _, rfl, rfl, ok_Pairs_init⟩
    | _ + 2, e => simp [pg, clsI] at e
  · simp only [pg, List.mem_cons, List.not_mem_nil, or_false] at hc
    rcases hc with rfl | rfl
    · exact ⟨_, _, rfl, rfl⟩
    · exact ⟨_, _, rfl, rfl⟩
  · simp [pg] at hv
  · simp only [pg, List.mem_cons, List.not_mem_nil, or_false, Prod.mk.injEq] at hv
    rcases hv with ⟨rfl, rfl, rfl, rfl⟩
    · exact ⟨_, 33, f_vir_wrong_path, 33, _, _, _, 1, rfl, by simp, rfl, rfl, okv_0, fun q hq => by cases hq; exact ⟨rfl, rfl⟩⟩
  · simp only [pg, List.mem_cons, List.not_mem_nil, or_false, Prod.mk.injEq] at hq
    rcases hq with ⟨rfl, rfl⟩
    · rfl
  · simp [pg, exsI] at he
abbrev nCon : Nat := 0
abbrev nLaw : Nat := 23
abbrev iLaw : Nat := 29
abbrev loose : List Str := [("_law_wide" : Str), ("_law_take" : Str), ("_law_pool" : Str), ("_law_names" : Str), ("_law_kind" : Str), ("_law_label" : Str), ("_law_talk" : Str), ("_law_table" : Str), ("_law_dual" : Str), ("_law_head" : Str), ("_law_row" : Str), ("stands_for_another" : Str), ("dual" : Str), ("dual_kind" : Str), ("rows_of" : Str), ("head" : Str), ("row_of" : Str), ("_wall" : Str), ("is_subtalk" : Str), ("wrong_path" : Str), ("visit" : Str), ("_law_near" : Str), ("_law_two" : Str), ("Heads" : Str), ("Pairs" : Str)]
end K13
end

section
namespace K13
open PySem PySem.Spec PyProof.Rows L2 Rf
def Has (W : Wd) : Prop := ∀ i fi, i < 100 → fns[i]? = some fi → W.fns[i]? = some fi
theorem wide_ok {W : Wd} (hW : Has W) (L n q : Nat) (ns : List Int) (k : Int) (hk : 0 ≤ k) (h : Hs) (hq : h[q]? = some (.lst (ns.map D.int))) : ∃ v : Int, callF W L (n + 1) 0 [.ob q, .int k] h = .ok (.int v) h := by
  rw [callF_s (hW 0 _ (by decide) rfl) rfl]
  by_cases hlt : k < ns.length
  · obtain ⟨x, hx, e⟩ := atI_some (xs := ns.map D.int) hk (by simpa using hlt)
    obtain ⟨c, _, rfl⟩ := List.mem_map.mp hx
    simp [q_set, q_put, q_expr, q_ret, q_retN, q_ife, q_cons, q_nil, q_cst, q_bin, q_neg, q_cmp, q_and, q_or, q_not, q_eife, q_tup, q_lst, q_dic, q_ix, q_slc, q_cal, q_blt, q_enil, q_econs, q_met, r_for, r_lc, r_var, r_ix_ob, r_sl_ob, r_put_ob, r_len_ob, r_tup_ob, r_lst_ob, r_addl, r_app, r_it_ob, r_in_ob, r_nin_ob, optI, Rf.start, f__law_wide, hq, hlt, e]
    split <;> split <;> simp [q_set, q_put, q_expr, q_ret, q_retN, q_ife, q_cons, q_nil, q_cst, q_bin, q_neg, q_cmp, q_and, q_or, q_not, q_eife, q_tup, q_lst, q_dic, q_ix, q_slc, q_cal, q_blt, q_enil, q_econs, q_met, r_for, r_lc, r_var, r_ix_ob, r_sl_ob, r_put_ob, r_len_ob, r_tup_ob, r_lst_ob, r_addl, r_app, r_it_ob, r_in_ob, r_nin_ob, optI, Rf.start, f__law_wide]
  · simp [q_set, q_put, q_expr, q_ret, q_retN, q_ife, q_cons, q_nil, q_cst, q_bin, q_neg, q_cmp, q_and, q_or, q_not, q_eife, q_tup, q_lst, q_dic, q_ix, q_slc, q_cal, q_blt, q_enil, q_econs, q_met, r_for, r_lc, r_var, r_ix_ob, r_sl_ob, r_put_ob, r_len_ob, r_tup_ob, r_lst_ob, r_addl, r_app, r_it_ob, r_in_ob, r_nin_ob, optI, Rf.start, f__law_wide, hq, hlt]
/-- the pool at p, its numbers at q -/
def PO (p q : Nat) (ns : List Int) (h : Hs) : Prop := p ≠ q ∧ ∃ a k : Int, -1 ≤ k ∧ h[p]? = some (.lst [.int a, .ob q, .int k]) ∧ h[q]? = some (.lst (ns.map D.int))
/-- what stands stays, the pool aside -/
def Kp (p : Nat) (h h' : Hs) : Prop := h.length ≤ h'.length ∧ ∀ i mo, i ≠ p → h[i]? = some mo → h'[i]? = some mo
theorem Kp.refl {p h} : Kp p h h := ⟨Nat.le_refl _, fun _ _ _ e => e⟩
theorem Kp.trans {p h h1 h2} (a : Kp p h h1) (b : Kp p h1 h2) : Kp p h h2 := ⟨Nat.le_trans a.1 b.1, fun i mo hi e => b.2 i mo hi (a.2 i mo hi e)⟩
theorem Kp.set {p h o} : Kp p h (h.set p o) := ⟨by simp, fun i mo hi e => by rw [List.getElem?_set_ne (Ne.symm hi)]; exact e⟩
theorem Kp.app {p h t} : Kp p h (h ++ t) := ⟨by simp, fun i mo hi e => lk_app e⟩
theorem PO.app {p q ns h t} (P : PO p q ns h) : PO p q ns (h ++ t) := by
  obtain ⟨h0, a, k, h1, h2, h3⟩ := P
  exact ⟨h0, a, k, h1, lk_app h2, lk_app h3⟩
theorem PO.lt {p q ns h} (P : PO p q ns h) : p < h.length := by
  obtain ⟨h0, a, k, h1, h2, h3⟩ := P
  exact lk_lt h2
theorem take_ok {W : Wd} (hW : Has W) (L n p q : Nat) (ns : List Int) (m : Int) (hm : 0 < m) (hm2 : m < 1073741824) (h : Hs) (P : PO p q ns h) :
    ∃ (v : Int) (h' : Hs), callF W L (n + 2) 1 [.ob p, .int m] h = .ok (.int v) h' ∧ 0 ≤ v ∧ v < m ∧ PO p q ns h' ∧ Kp p h h' := by
  obtain ⟨hpq, a, k, hk, hp, hq⟩ := P
  have hlp := lk_lt hp
  have hs : ∀ (h : Hs) o, p < h.length → (h.set p o)[p]? = some o := fun h o hl => by simp [hl]
  have hs : ∀ o, (h.set p o)[p]? = some o := fun o => hs h o hlp
  have fin : ∀ (a k : Int) (h1 : Hs), -1 ≤ k → h1[p]? = some (.lst [.int a, .ob q, .int k]) → h1[q]? = some (.lst (ns.map D.int)) → Kp p h h1 →
      ∃ (v : Int) (h' : Hs), (evalB W L (callF W L (n + 1)) none (f__law_take.body.drop 1) [some (.ob p), some (.int m), none] h1).fin = .ok (.int v) h' ∧ 0 ≤ v ∧ v < m ∧ PO p q ns h' ∧ Kp p h h' := by
    intro a k h1 hk hp hq kp
    have hl1 := lk_lt hp
    have hm0 : m ≠ 0 := by omega
    have hm3 : m.natAbs < 1073741824 := by omega
    refine ⟨a.fmod m, h1.set p (.lst [.int (a.fdiv m), .ob q, .int k]), ?_, Int.fmod_nonneg_of_pos _ hm, Int.fmod_lt_of_pos _ hm, ⟨hpq, a.fdiv m, k, hk, by simp [hl1], by rw [List.getElem?_set_ne hpq]; exact hq⟩, kp.trans Kp.set⟩
    simp [q_set, q_put, q_expr, q_ret, q_retN, q_ife, q_cons, q_nil, q_cst, q_bin, q_neg, q_cmp, q_and, q_or, q_not, q_eife, q_tup, q_lst, q_dic, q_ix, q_slc, q_cal, q_blt, q_enil, q_econs, q_met, r_for, r_lc, r_var, r_ix_ob, r_sl_ob, r_put_ob, r_len_ob, r_tup_ob, r_lst_ob, r_addl, r_app, r_it_ob, r_in_ob, r_nin_ob, optI, Rf.start, f__law_take, hp, atI, ixN, hm0, hm3]
  rw [callF_s (hW 1 _ (by decide) rfl) rfl]
  by_cases ha : a < 1000
  · obtain ⟨v, ev1⟩ := wide_ok hW L n q ns (k + 1) (by omega) (h.set p (.lst [.int a, .ob q, .int (k + 1)])) (by rw [List.getElem?_set_ne hpq]; exact hq)
    have := fin v (k + 1) ((h.set p (.lst [.int a, .ob q, .int (k + 1)])).set p (.lst [.int v, .ob q, .int (k + 1)])) (by omega) (by simp [hlp]) (by rw [List.getElem?_set_ne hpq, List.getElem?_set_ne hpq]; exact hq) (Kp.set.trans Kp.set)
    obtain ⟨v', h', e, r⟩ := this
    refine ⟨v', h', ?_, r⟩
    rw [← e]
    simp [q_set, q_put, q_expr, q_ret, q_retN, q_ife, q_cons, q_nil, q_cst, q_bin, q_neg, q_cmp, q_and, q_or, q_not, q_eife, q_tup, q_lst, q_dic, q_ix, q_slc, q_cal, q_blt, q_enil, q_econs, q_met, r_for, r_lc, r_var, r_ix_ob, r_sl_ob, r_put_ob, r_len_ob, r_tup_ob, r_lst_ob, r_addl, r_app, r_it_ob, r_in_ob, r_nin_ob, optI, Rf.start, f__law_take, hp, atI, ixN, ha, ev1, hs]
  · obtain ⟨v', h', e, r⟩ := fin a k h hk hp hq Kp.refl
    refine ⟨v', h', ?_, r⟩
    rw [← e]
    simp [q_set, q_put, q_expr, q_ret, q_retN, q_ife, q_cons, q_nil, q_cst, q_bin, q_neg, q_cmp, q_and, q_or, q_not, q_eife, q_tup, q_lst, q_dic, q_ix, q_slc, q_cal, q_blt, q_enil, q_econs, q_met, r_for, r_lc, r_var, r_ix_ob, r_sl_ob, r_put_ob, r_len_ob, r_tup_ob, r_lst_ob, r_addl, r_app, r_it_ob, r_in_ob, r_nin_ob, optI, Rf.start, f__law_take, hp, atI, ixN, ha]
end K13
end

section
namespace K13
open PySem PySem.Spec PyProof.Rows L2 Rf
/-! ### talks -/
mutual
inductive T where
  | en | nm (s : List Char) | du (s : List Char) | say (r : TR) | hear (r : TR)
inductive TR where
  | nil | cons (l : List Char) (p : D) (t : T) (r : TR)
end
abbrev cN : List Char := ['n', 'a', 'm', 'e']
abbrev cU : List Char := ['d', 'u', 'a', 'l']
abbrev cE : List Char := ['e', 'n', 'd']
abbrev cS : List Char := ['s', 'a', 'y']
abbrev cH : List Char := ['h', 'e', 'a', 'r']
mutual
def toD : T → D
  | .en => .tup [.str cE]
  | .nm s => .tup [.str cN, .str s]
  | .du s => .tup [.str cU, .str s]
  | .say r => .tup [.str cS, .tup (rowsD r)]
  | .hear r => .tup [.str cH, .tup (rowsD r)]
def rowsD : TR → List D
  | .nil => []
  | .cons l p t r => .tup [.str l, p, toD t] :: rowsD r
end
mutual
def dl : T → T
  | .en => .en
  | .nm s => .du s
  | .du s => .nm s
  | .say r => .hear (dlR r)
  | .hear r => .say (dlR r)
def dlR : TR → TR
  | .nil => .nil
  | .cons l p t r => .cons l p (dl t) (dlR r)
end
def lenR : TR → Nat
  | .nil => 0
  | .cons _ _ _ r => lenR r + 1
abbrev cI : List Char := ['i', 'n', 't']
abbrev cB : List Char := ['b', 'o', 'o', 'l']
def labs : TR → List (List Char)
  | .nil => []
  | .cons l _ _ r => l :: labs r
theorem labs_dl : ∀ r : TR, labs (dlR r) = labs r
  | .nil => rfl
  | .cons l p t r => by simp only [dlR, labs, labs_dl r]
def okL (s : List Char) : Prop := s.all plC = true ∧ s.length ≤ 8
def okP (nms : List (List Char)) (p : D) : Prop := p = .non ∨ p = .str cI ∨ p = .str cB ∨ ∃ s ∈ nms, p = .tup [.str cN, .str s] ∨ p = .tup [.str cU, .str s]
mutual
def okT (nms : List (List Char)) (bb : Nat) : T → Nat → Prop
  | .en, _ => True
  | .nm s, _ => s ∈ nms
  | .du s, _ => s ∈ nms
  | .say r, k + 1 => lenR r ≤ bb ∧ okR nms bb r k
  | .hear r, k + 1 => lenR r ≤ bb ∧ okR nms bb r k
  | .say _, 0 => False
  | .hear _, 0 => False
def okR (nms : List (List Char)) (bb : Nat) : TR → Nat → Prop
  | .nil, _ => True
  | .cons l p t r, k => (okL l ∧ l ∉ labs r) ∧ okP nms p ∧ okT nms bb t k ∧ okR nms bb r k
end
theorem okP_dat {nms : List (List Char)} {p : D} (h : okP nms p) : pur p = true ∧ dep p ≤ 3 := by
  rcases h with rfl | rfl | rfl | ⟨s, _, rfl | rfl⟩ <;> simp [pur, purs, dep, deps]
variable {nms : List (List Char)} {bb : Nat}
mutual
theorem dl_dl : ∀ t : T, dl (dl t) = t
  | .en => rfl
  | .nm s => rfl
  | .du s => rfl
  | .say r => by simp only [dl, dlR_dlR r]
  | .hear r => by simp only [dl, dlR_dlR r]
theorem dlR_dlR : ∀ r : TR, dlR (dlR r) = r
  | .nil => rfl
  | .cons l p t r => by simp only [dlR, dl_dl t, dlR_dlR r]
end
theorem lenR_dl : ∀ r : TR, lenR (dlR r) = lenR r
  | .nil => rfl
  | .cons l p t r => by simp only [dlR, lenR, lenR_dl r]
theorem rowsD_len : ∀ r : TR, (rowsD r).length = lenR r
  | .nil => rfl
  | .cons l p t r => by simp only [rowsD, lenR, List.length_cons, rowsD_len r]
mutual
theorem okT_dl : ∀ {t : T} {k : Nat}, okT nms bb t k → okT nms bb (dl t) k
  | .en, _, _ => by simp only [dl, okT]
  | .nm s, _, h => by simp only [dl, okT] at h ⊢; exact h
  | .du s, _, h => by simp only [dl, okT] at h ⊢; exact h
  | .say r, 0, h => by simp [okT] at h
  | .hear r, 0, h => by simp [okT] at h
  | .say r, k + 1, h => by
    simp only [dl, okT, lenR_dl] at h ⊢
    exact ⟨h.1, okR_dl h.2⟩
  | .hear r, k + 1, h => by
    simp only [dl, okT, lenR_dl] at h ⊢
    exact ⟨h.1, okR_dl h.2⟩
theorem okR_dl : ∀ {r : TR} {k : Nat}, okR nms bb r k → okR nms bb (dlR r) k
  | .nil, _, _ => by simp only [dlR, okR]
  | .cons l p t r, k, h => by
    simp only [dlR, okR] at h ⊢
    rw [labs_dl]
    exact ⟨h.1, h.2.1, okT_dl h.2.2.1, okR_dl h.2.2.2⟩
end
mutual
theorem purT : ∀ {t : T} {k : Nat}, okT nms bb t k → pur (toD t) = true
  | .en, _, _ => by simp [toD, pur, purs]
  | .nm s, _, _ => by simp [toD, pur, purs]
  | .du s, _, _ => by simp [toD, pur, purs]
  | .say r, 0, h => by simp [okT] at h
  | .hear r, 0, h => by simp [okT] at h
  | .say r, k + 1, h => by
    simp only [okT] at h
    simp [toD, pur, purs, purR h.2]
  | .hear r, k + 1, h => by
    simp only [okT] at h
    simp [toD, pur, purs, purR h.2]
theorem purR : ∀ {r : TR} {k : Nat}, okR nms bb r k → purs (rowsD r) = true
  | .nil, _, _ => by simp [rowsD, purs]
  | .cons l p t r, k, h => by
    simp only [okR] at h
    simp [rowsD, pur, purs, (okP_dat h.2.1).1, purT h.2.2.1, purR h.2.2.2]
end
mutual
theorem depT : ∀ {t : T} {k : Nat}, okT nms bb t k → dep (toD t) ≤ 3 * k + 4
  | .en, _, _ => by simp only [toD, dep, deps]; omega
  | .nm s, _, _ => by simp only [toD, dep, deps]; omega
  | .du s, _, _ => by simp only [toD, dep, deps]; omega
  | .say r, 0, h => by simp [okT] at h
  | .hear r, 0, h => by simp [okT] at h
  | .say r, k + 1, h => by
    simp only [okT] at h
    have := depR h.2
    simp only [toD, dep, deps]; omega
  | .hear r, k + 1, h => by
    simp only [okT] at h
    have := depR h.2
    simp only [toD, dep, deps]; omega
theorem depR : ∀ {r : TR} {k : Nat}, okR nms bb r k → deps (rowsD r) ≤ 3 * k + 5
  | .nil, _, _ => by simp only [rowsD, deps]; omega
  | .cons l p t r, k, h => by
    simp only [okR] at h
    have h1 := depT h.2.2.1
    have h2 := depR h.2.2.2
    have h3 := (okP_dat h.2.1).2
    simp only [rowsD, dep, deps]; omega
end
theorem flatT {t : T} {k : Nat} (h : okT nms bb t k) (hk : k ≤ 15) : flat (toD t) = true := by
  have := depT h
  simp [flat, purT h]; omega
mutual
theorem eqv_refl : ∀ d : D, pur d = true → eqv d d = true
  | .non, _ => rfl
  | .bl b, _ => by simp [eqv]
  | .int i, _ => by simp [eqv]
  | .str s, _ => by simp [eqv]
  | .tup xs, h => by simp only [eqv]; exact eqvs_refl xs (by simpa [pur] using h)
  | .ob _, h => by simp [pur] at h
  | .fn _, h => by simp [pur] at h
  | .con _, h => by simp [pur] at h
theorem eqvs_refl : ∀ ds : List D, purs ds = true → eqvs ds ds = true
  | [], _ => rfl
  | d :: ds, h => by
    simp only [purs, Bool.and_eq_true] at h
    simp [eqvs, eqv_refl d h.1, eqvs_refl ds h.2]
end
/-- what stands stays -/
def Kx (h h' : Hs) : Prop := h.length ≤ h'.length ∧ ∀ (i : Nat) (mo : MO), h[i]? = some mo → h'[i]? = some mo
theorem Kx.refl {h} : Kx h h := ⟨Nat.le_refl _, fun _ _ e => e⟩
theorem Kx.trans {h h1 h2} (a : Kx h h1) (b : Kx h1 h2) : Kx h h2 := ⟨Nat.le_trans a.1 b.1, fun i mo e => b.2 i mo (a.2 i mo e)⟩
theorem Kx.app {h t} : Kx h (h ++ t) := ⟨by simp, fun i mo e => lk_app e⟩
theorem Kx.kp {p h h'} (a : Kx h h') : Kp p h h' := ⟨a.1, fun i mo _ e => a.2 i mo e⟩
theorem Kx.of_new {h h1 h2 z} (a : Kx h h1) (hz : h.length ≤ z) (b : Kp z h1 h2) : Kx h h2 := ⟨Nat.le_trans a.1 b.1, fun i mo e => b.2 i mo (fun q => by have := lk_lt e; omega) (a.2 i mo e)⟩
/-! ### the program's own defs -/
variable {W : Wd} (hW : Has W) (L : Nat)
include hW
def isN : T → Bool
  | .nm _ => true | .du _ => true | _ => false
theorem stands_ok (n : Nat) (t : T) (h : Hs) : callF W L (n + 1) 11 [toD t] h = .ok (.bl (isN t)) h := by
  rw [callF_s (hW 11 _ (by decide) rfl) rfl]
  cases t <;> simp [q_set, q_put, q_expr, q_ret, q_retN, q_ife, q_cons, q_nil, q_cst, q_bin, q_neg, q_cmp, q_and, q_or, q_not, q_eife, q_tup, q_lst, q_dic, q_ix, q_slc, q_cal, q_blt, q_enil, q_econs, q_met, r_for, r_lc, r_var, r_ix_ob, r_sl_ob, r_put_ob, r_len_ob, r_tup_ob, r_lst_ob, r_addl, r_app, r_it_ob, r_in_ob, r_nin_ob, optI, Rf.start, f_stands_for_another, toD, atI, ixN, isN]
end K13
end

section
namespace K13
open PySem PySem.Spec PyProof.Rows L2 Rf
variable {nms : List (List Char)} {W : Wd} (hW : Has W) (L : Nat)
include hW
/-- the names at z -/
def NM (z : Nat) (nms : List (List Char)) (h : Hs) : Prop := h[z]? = some (.lst (nms.map D.str)) ∧ 0 < nms.length ∧ nms.length ≤ 3 ∧ ∀ s ∈ nms, okL s
theorem names_ok (n p q : Nat) (ns : List Int) (h : Hs) (P : PO p q ns h) : ∃ (z : Nat) (nms : List (List Char)) (h' : Hs), callF W L (n + 3) 3 [.ob p] h = .ok (.ob z) h' ∧ NM z nms h' ∧ PO p q ns h' ∧ Kp p h h' ∧ h.length ≤ z ∧ nms.Nodup := by
  obtain ⟨v1, h1, e1, a1, b1, P1, k1⟩ := take_ok hW L n p q ns 6 (by decide) (by decide) (h ++ [.lst [.str ['T'], .str ['T', 'a'], .str ['T', 'a', 'l', 'k'], .str ['X', '9'], .str ['C', 'a', 'l', 'c'], .str ['B']]]) P.app
  have z1 := k1.2 h.length _ (by have := P.lt; omega) lk_new
  obtain ⟨x1, m1, i1⟩ := atI_some (xs := [D.str ['T'], .str ['T', 'a'], .str ['T', 'a', 'l', 'k'], .str ['X', '9'], .str ['C', 'a', 'l', 'c'], .str ['B']]) a1 (by simpa using b1)
  obtain ⟨s1, rfl, q1⟩ : ∃ s, x1 = .str s ∧ s ∈ [['T'], ['T', 'a'], ['T', 'a', 'l', 'k'], ['X', '9'], ['C', 'a', 'l', 'c'], ['B']] := by simp at m1; rcases m1 with rfl | rfl | rfl | rfl | rfl | rfl <;> exact ⟨_, rfl, by simp⟩
  obtain ⟨v2, h2, e2, a2, b2, P2, k2⟩ := take_ok hW L n p q ns 6 (by decide) (by decide) (h1 ++ [.lst [.str ['U'], .str ['T', 'b'], .str ['T', 'a', 'l'], .str ['X', '8'], .str ['D', 'i', 'a', 'l'], .str ['A']]]) P1.app
  have z2 := k2.2 h1.length _ (by have := P1.lt; omega) lk_new
  obtain ⟨x2, m2, i2⟩ := atI_some (xs := [D.str ['U'], .str ['T', 'b'], .str ['T', 'a', 'l'], .str ['X', '8'], .str ['D', 'i', 'a', 'l'], .str ['A']]) a2 (by simpa using b2)
  obtain ⟨s2, rfl, q2⟩ : ∃ s, x2 = .str s ∧ s ∈ [['U'], ['T', 'b'], ['T', 'a', 'l'], ['X', '8'], ['D', 'i', 'a', 'l'], ['A']] := by simp at m2; rcases m2 with rfl | rfl | rfl | rfl | rfl | rfl <;> exact ⟨_, rfl, by simp⟩
  obtain ⟨v3, h3, e3, a3, b3, P3, k3⟩ := take_ok hW L n p q ns 3 (by decide) (by decide) (h2 ++ [.lst [.str s1, .str s2, .str ['Z', 'z']]]) P2.app
  have z3 := k3.2 h2.length _ (by have := P2.lt; omega) lk_new
  have kk : Kp p h h3 := Kp.app.trans (k1.trans (Kp.app.trans (k2.trans (Kp.app.trans k3))))
  have main : ∀ nms : List (List Char), cutD [D.str s1, .str s2, .str ['Z', 'z']] none (some (1 + v3)) = nms.map D.str → 0 < nms.length → nms.length ≤ 3 → (∀ s ∈ nms, okL s) → nms.Nodup → ∃ (z : Nat) (nms : List (List Char)) (h' : Hs), callF W L (n + 3) 3 [.ob p] h = .ok (.ob z) h' ∧ NM z nms h' ∧ PO p q ns h' ∧ Kp p h h' ∧ h.length ≤ z ∧ nms.Nodup := by
    intro nms ec hn1 hn2 hn3 hnd
    refine ⟨h3.length, nms, h3 ++ [.lst (nms.map D.str)], ?_, ⟨lk_new, hn1, hn2, hn3⟩, P3.app, kk.trans Kp.app, kk.1, hnd⟩
    rw [callF_s (hW 3 _ (by decide) rfl) rfl]
    simp [q_set, q_put, q_expr, q_ret, q_retN, q_ife, q_cons, q_nil, q_cst, q_bin, q_neg, q_cmp, q_and, q_or, q_not, q_eife, q_tup, q_lst, q_dic, q_ix, q_slc, q_cal, q_blt, q_enil, q_econs, q_met, r_for, r_lc, r_var, r_ix_ob, r_sl_ob, r_put_ob, r_len_ob, r_tup_ob, r_lst_ob, r_addl, r_app, r_it_ob, r_in_ob, r_nin_ob, optI, Rf.start, f__law_names, e1, z1, i1, e2, z2, i2, e3, z3, ec, sizeLine]
  have d1 : s1 ≠ s2 := by
    rintro rfl
    simp at q1 q2
    rcases q1 with rfl | rfl | rfl | rfl | rfl | rfl <;> simp at q2
  have d2 : s1 ≠ ['Z', 'z'] := by
    rintro rfl
    simp at q1
  have d3 : s2 ≠ ['Z', 'z'] := by
    rintro rfl
    simp at q2
  have o1 : okL s1 := by
    simp at q1
    rcases q1 with rfl | rfl | rfl | rfl | rfl | rfl <;> exact ⟨by decide, by decide⟩
  have o2 : okL s2 := by
    simp at q2
    rcases q2 with rfl | rfl | rfl | rfl | rfl | rfl <;> exact ⟨by decide, by decide⟩
  have o3 : okL ['Z', 'z'] := ⟨by decide, by decide⟩
  have : v3 = 0 ∨ v3 = 1 ∨ v3 = 2 := by omega
  rcases this with rfl | rfl | rfl
  · exact main [s1] rfl (by simp) (by simp) (by simp [o1, o2, o3]) (by simp [d1, d2, d3])
  · exact main [s1, s2] rfl (by simp) (by simp) (by simp [o1, o2, o3]) (by simp [d1, d2, d3])
  · exact main [s1, s2, ['Z', 'z']] rfl (by simp) (by simp) (by simp [o1, o2, o3]) (by simp [d1, d2, d3])
end K13
end

section
namespace K13
open PySem PySem.Spec PyProof.Rows L2 Rf
theorem NM.kp {z p : Nat} {nms : List (List Char)} {h h' : Hs} (N : NM z nms h) (hz : z ≠ p) (k : Kp p h h') : NM z nms h' := ⟨k.2 z _ hz N.1, N.2⟩
theorem nm_pick {z : Nat} {nms : List (List Char)} {h : Hs} (N : NM z nms h) {v : Int} (h0 : 0 ≤ v) (h1 : v < (nms.length : Int)) : ∃ s, s ∈ nms ∧ atI (nms.map D.str) v = some (.str s) := by
  obtain ⟨x, hx, e⟩ := atI_some (xs := nms.map D.str) h0 (by simpa using h1)
  obtain ⟨s, hs, rfl⟩ := List.mem_map.mp hx
  exact ⟨s, hs, e⟩
section
variable {nms : List (List Char)} {bb : Nat} {W : Wd}
/-- the labels so far -/
def lbs : TR → List D
  | .nil => []
  | .cons l p t r => .str l :: lbs r
theorem lbs_len : ∀ r : TR, (lbs r).length = lenR r
  | .nil => rfl
  | .cons l p t r => by simp only [lbs, lenR, List.length_cons, lbs_len r]
theorem lbs_flat : ∀ r : TR, (lbs r).all flat = true
  | .nil => rfl
  | .cons l p t r => by simp only [lbs, List.all_cons, lbs_flat r]; rfl
theorem lbs_loop {σ : Sg} {σ1 : D → Sg} {g : Gd} (cf : CF) (h : Hs) (hg : same g h) (hσ : ∀ d, bindT (.nm 7) d (wipeI σ [7]) = some (σ1 d)) (h7 : ∀ d, (σ1 d)[7]? = some (some d)) : ∀ (r : TR) (acc : List D), acc.length + lenR r < sizeLine →
    lcI g (lT W cf [7] (.nm 7) [] (.ix (.var 7) (.cst (.int 0))) σ) (rowsD r) acc h = .ok (acc ++ lbs r) (endG g h)
  | .nil, acc, _ => by rw [rowsD, lcI_nil hg]; simp [lbs]
  | .cons l p t r, acc, hl => by
    simp only [lenR] at hl
    rw [rowsD, lcI_some (h' := h) (x := .str l) hg ?_ (by omega), lbs_loop cf h hg hσ h7 r _ (by simp; omega)]
    · simp [lbs]
    · rw [lT_nil (hσ _)]
      simp [q_set, q_put, q_expr, q_ret, q_retN, q_ife, q_cons, q_nil, q_cst, q_bin, q_neg, q_cmp, q_and, q_or, q_not, q_eife, q_tup, q_lst, q_dic, q_ix, q_slc, q_cal, q_blt, q_enil, q_econs, q_met, r_for, r_lc, r_var, r_ix_ob, r_sl_ob, r_put_ob, r_len_ob, r_tup_ob, r_lst_ob, r_addl, r_app, r_it_ob, r_in_ob, r_nin_ob, optI, Rf.start, h7, atI, ixN]
def addR : TR → List Char → D → T → TR
  | .nil, l, p, t => .cons l p t .nil
  | .cons l p t r, l', p', t' => .cons l p t (addR r l' p' t')
theorem addR_rows : ∀ (r : TR) (l : List Char) (p : D) (t : T), rowsD (addR r l p t) = rowsD r ++ [.tup [.str l, p, toD t]]
  | .nil, _, _, _ => by simp [addR, rowsD]
  | .cons _ _ _ r, l, p, t => by simp [addR, rowsD, addR_rows r l p t]
theorem addR_len : ∀ (r : TR) (l : List Char) (p : D) (t : T), lenR (addR r l p t) = lenR r + 1
  | .nil, _, _, _ => rfl
  | .cons _ _ _ r, l, p, t => by simp [addR, lenR, addR_len r l p t]
theorem labs_add : ∀ (r : TR) (l : List Char) (p : D) (t : T), labs (addR r l p t) = labs r ++ [l]
  | .nil, _, _, _ => rfl
  | .cons _ _ _ r, l, p, t => by simp [addR, labs, labs_add r l p t]
theorem lbs_labs : ∀ r : TR, lbs r = (labs r).map D.str
  | .nil => rfl
  | .cons _ _ _ r => by simp [lbs, labs, lbs_labs r]
theorem inL_labs {s : List Char} {r : TR} : inL (.str s) (lbs r) = true ↔ s ∈ labs r := by
  unfold inL
  rw [lbs_labs, List.any_map, List.any_eq_true]
  constructor
  · rintro ⟨x, hx, e⟩
    simp only [Function.comp, eqv, beq_iff_eq] at e
    rw [← e]; exact hx
  · intro h
    exact ⟨s, h, by simp [eqv]⟩
theorem addR_ok : ∀ {r : TR} {l : List Char} {p : D} {t : T} {k : Nat}, okR nms bb r k → okL l → l ∉ labs r → okP nms p → okT nms bb t k → okR nms bb (addR r l p t) k
  | .nil, _, _, _, _, _, h0, hl, h1, h2 => by simp only [addR, okR, labs]; exact ⟨⟨h0, by simp⟩, h1, h2, trivial⟩
  | .cons l' _ _ r, l, p, t, k, h, h0, hl, h1, h2 => by
    simp only [okR, addR, labs, List.mem_cons, not_or] at h hl ⊢
    refine ⟨⟨h.1.1, ?_⟩, h.2.1, h.2.2.1, addR_ok h.2.2.2 h0 hl.2 h1 h2⟩
    rw [labs_add]
    simp only [List.mem_append, List.mem_singleton, not_or]
    exact ⟨h.1.2, Ne.symm hl.1⟩
end
variable {nms : List (List Char)} {W : Wd} (hW : Has W) (L : Nat)
include hW
theorem kind_ok (n p q z : Nat) (ns : List Int) (nms : List (List Char)) (h : Hs) (P : PO p q ns h) (N : NM z nms h) (hz : z ≠ p) : ∃ (d : D) (h' : Hs), callF W L (n + 3) 4 [.ob p, .ob z] h = .ok d h' ∧ okP nms d ∧ PO p q ns h' ∧ Kp p h h' := by
  obtain ⟨c, h1, e1, a1, b1, P1, k1⟩ := take_ok hW L n p q ns 6 (by decide) (by decide) h P
  have N1 := N.kp hz k1
  rw [callF_s (hW 4 _ (by decide) rfl) rfl]
  by_cases hc : c < 3
  · have hc3 : c = 0 ∨ c = 1 ∨ c = 2 := by omega
    rcases hc3 with rfl | rfl | rfl
    · refine ⟨.non, h1 ++ [.lst [.non, .str ['i', 'n', 't'], .str ['b', 'o', 'o', 'l']]], ?_, .inl rfl, P1.app, k1.trans Kp.app⟩
      simp [q_set, q_put, q_expr, q_ret, q_retN, q_ife, q_cons, q_nil, q_cst, q_bin, q_neg, q_cmp, q_and, q_or, q_not, q_eife, q_tup, q_lst, q_dic, q_ix, q_slc, q_cal, q_blt, q_enil, q_econs, q_met, r_for, r_lc, r_var, r_ix_ob, r_sl_ob, r_put_ob, r_len_ob, r_tup_ob, r_lst_ob, r_addl, r_app, r_it_ob, r_in_ob, r_nin_ob, optI, Rf.start, f__law_kind, e1, atI, ixN, sizeLine]
    · refine ⟨.str ['i', 'n', 't'], h1 ++ [.lst [.non, .str ['i', 'n', 't'], .str ['b', 'o', 'o', 'l']]], ?_, .inr (.inl rfl), P1.app, k1.trans Kp.app⟩
      simp [q_set, q_put, q_expr, q_ret, q_retN, q_ife, q_cons, q_nil, q_cst, q_bin, q_neg, q_cmp, q_and, q_or, q_not, q_eife, q_tup, q_lst, q_dic, q_ix, q_slc, q_cal, q_blt, q_enil, q_econs, q_met, r_for, r_lc, r_var, r_ix_ob, r_sl_ob, r_put_ob, r_len_ob, r_tup_ob, r_lst_ob, r_addl, r_app, r_it_ob, r_in_ob, r_nin_ob, optI, Rf.start, f__law_kind, e1, atI, ixN, sizeLine]
    · refine ⟨.str ['b', 'o', 'o', 'l'], h1 ++ [.lst [.non, .str ['i', 'n', 't'], .str ['b', 'o', 'o', 'l']]], ?_, .inr (.inr (.inl rfl)), P1.app, k1.trans Kp.app⟩
      simp [q_set, q_put, q_expr, q_ret, q_retN, q_ife, q_cons, q_nil, q_cst, q_bin, q_neg, q_cmp, q_and, q_or, q_not, q_eife, q_tup, q_lst, q_dic, q_ix, q_slc, q_cal, q_blt, q_enil, q_econs, q_met, r_for, r_lc, r_var, r_ix_ob, r_sl_ob, r_put_ob, r_len_ob, r_tup_ob, r_lst_ob, r_addl, r_app, r_it_ob, r_in_ob, r_nin_ob, optI, Rf.start, f__law_kind, e1, atI, ixN, sizeLine]
  · have hm0 := Int.fmod_nonneg_of_pos c (b := 2) (by decide)
    have hm1 := Int.fmod_lt_of_pos c (b := 2) (by decide)
    obtain ⟨x, m, i1⟩ := atI_some (xs := [D.str ['n', 'a', 'm', 'e'], .str ['d', 'u', 'a', 'l']]) hm0 (by simpa using hm1)
    obtain ⟨s1, rfl, hs1⟩ : ∃ s, x = .str s ∧ (s = cN ∨ s = cU) := by simp at m; rcases m with rfl | rfl <;> simp
    have hl1 : (0 : Int) < (nms.length : Int) := by have := N.2.1; omega
    have hl2 : (nms.length : Int) < 1073741824 := by have := N.2.2.1; omega
    obtain ⟨v2, h2, e2, a2, b2, P2, k2⟩ := take_ok hW L n p q ns nms.length hl1 hl2 (h1 ++ [.lst [.str ['n', 'a', 'm', 'e'], .str ['d', 'u', 'a', 'l']]]) P1.app
    have N1' : NM z nms (h1 ++ [.lst [.str ['n', 'a', 'm', 'e'], .str ['d', 'u', 'a', 'l']]]) := N1.kp hz Kp.app
    have N2 := N1'.kp hz k2
    obtain ⟨s2, hs2, i2⟩ := nm_pick N2 a2 b2
    refine ⟨.tup [.str s1, .str s2], h2, ?_, .inr (.inr (.inr ⟨s2, hs2, by rcases hs1 with rfl | rfl <;> simp⟩)), P2, k1.trans (Kp.app.trans k2)⟩
    have hN1 := N1'.1
    have hN2 := N2.1
    simp [q_set, q_put, q_expr, q_ret, q_retN, q_ife, q_cons, q_nil, q_cst, q_bin, q_neg, q_cmp, q_and, q_or, q_not, q_eife, q_tup, q_lst, q_dic, q_ix, q_slc, q_cal, q_blt, q_enil, q_econs, q_met, r_for, r_lc, r_var, r_ix_ob, r_sl_ob, r_put_ob, r_len_ob, r_tup_ob, r_lst_ob, r_addl, r_app, r_it_ob, r_in_ob, r_nin_ob, optI, Rf.start, f__law_kind, e1, hc, i1, hN1, e2, hN2, i2, sizeLine]
theorem label_ok (n p q : Nat) (ns : List Int) (h : Hs) (P : PO p q ns h) : ∃ (s : List Char) (h' : Hs), callF W L (n + 3) 5 [.ob p] h = .ok (.str s) h' ∧ okL s ∧ PO p q ns h' ∧ Kp p h h' := by
  obtain ⟨v1, h1, e1, a1, b1, P1, k1⟩ := take_ok hW L n p q ns 6 (by decide) (by decide) (h ++ [.lst [.str ['g', 'o'], .str ['g', 'o', 'o'], .str ['s', 't', 'o', 'p'], .str ['a'], .str ['b'], .str ['a', 't']]]) P.app
  have z1 := k1.2 h.length _ (by have := P.lt; omega) lk_new
  obtain ⟨x1, m1, i1⟩ := atI_some (xs := [D.str ['g', 'o'], .str ['g', 'o', 'o'], .str ['s', 't', 'o', 'p'], .str ['a'], .str ['b'], .str ['a', 't']]) a1 (by simpa using b1)
  obtain ⟨s1, rfl, hs1⟩ : ∃ s, x1 = .str s ∧ okL s := by simp at m1; rcases m1 with rfl | rfl | rfl | rfl | rfl | rfl <;> exact ⟨_, rfl, by decide, by decide⟩
  refine ⟨s1, h1, ?_, hs1, P1, Kp.app.trans k1⟩
  rw [callF_s (hW 5 _ (by decide) rfl) rfl]
  simp [q_set, q_put, q_expr, q_ret, q_retN, q_ife, q_cons, q_nil, q_cst, q_bin, q_neg, q_cmp, q_and, q_or, q_not, q_eife, q_tup, q_lst, q_dic, q_ix, q_slc, q_cal, q_blt, q_enil, q_econs, q_met, r_for, r_lc, r_var, r_ix_ob, r_sl_ob, r_put_ob, r_len_ob, r_tup_ob, r_lst_ob, r_addl, r_app, r_it_ob, r_in_ob, r_nin_ob, optI, Rf.start, f__law_label, e1, z1, i1, sizeLine]
theorem takeN (N p q : Nat) (hN : 2 ≤ N) (ns : List Int) (m : Int) (hm : 0 < m) (hm2 : m < 1073741824) (h : Hs) (P : PO p q ns h) :
    ∃ (v : Int) (h' : Hs), callF W L N 1 [.ob p, .int m] h = .ok (.int v) h' ∧ 0 ≤ v ∧ v < m ∧ PO p q ns h' ∧ Kp p h h' := by
  obtain ⟨n, rfl⟩ : ∃ n, N = n + 2 := ⟨N - 2, by omega⟩
  exact take_ok hW L n p q ns m hm hm2 h P
theorem kindN (N p q z : Nat) (hN : 3 ≤ N) (ns : List Int) (nms : List (List Char)) (h : Hs) (P : PO p q ns h) (Nm : NM z nms h) (hz : z ≠ p) : ∃ (d : D) (h' : Hs), callF W L N 4 [.ob p, .ob z] h = .ok d h' ∧ okP nms d ∧ PO p q ns h' ∧ Kp p h h' := by
  obtain ⟨n, rfl⟩ : ∃ n, N = n + 3 := ⟨N - 3, by omega⟩
  exact kind_ok hW L n p q z ns nms h P Nm hz
theorem labelN (N p q : Nat) (hN : 3 ≤ N) (ns : List Int) (h : Hs) (P : PO p q ns h) : ∃ (s : List Char) (h' : Hs), callF W L N 5 [.ob p] h = .ok (.str s) h' ∧ okL s ∧ PO p q ns h' ∧ Kp p h h' := by
  obtain ⟨n, rfl⟩ : ∃ n, N = n + 3 := ⟨N - 3, by omega⟩
  exact label_ok hW L n p q ns h P
theorem namesN (N p q : Nat) (hN : 3 ≤ N) (ns : List Int) (h : Hs) (P : PO p q ns h) : ∃ (z : Nat) (nms : List (List Char)) (h' : Hs), callF W L N 3 [.ob p] h = .ok (.ob z) h' ∧ NM z nms h' ∧ PO p q ns h' ∧ Kp p h h' ∧ h.length ≤ z ∧ nms.Nodup := by
  obtain ⟨n, rfl⟩ : ∃ n, N = n + 3 := ⟨N - 3, by omega⟩
  exact names_ok hW L n p q ns h P
end K13
end

section
namespace K13
open PySem PySem.Spec PyProof.Rows L2 Rf
/-- what stands stays, two aside -/
def Ky (p y : Nat) (h h' : Hs) : Prop := h.length ≤ h'.length ∧ ∀ (i : Nat) (mo : MO), i ≠ p → i ≠ y → h[i]? = some mo → h'[i]? = some mo
theorem Ky.refl {p y h} : Ky p y h h := ⟨Nat.le_refl _, fun _ _ _ _ e => e⟩
theorem Ky.trans {p y h h1 h2} (a : Ky p y h h1) (b : Ky p y h1 h2) : Ky p y h h2 := ⟨Nat.le_trans a.1 b.1, fun i mo hi hj e => b.2 i mo hi hj (a.2 i mo hi hj e)⟩
theorem Kp.ky {p y h h'} (a : Kp p h h') : Ky p y h h' := ⟨a.1, fun i mo hi _ e => a.2 i mo hi e⟩
theorem Ky.set {p y h o} : Ky p y h (h.set y o) := ⟨by simp, fun i mo _ hi e => by rw [List.getElem?_set_ne (Ne.symm hi)]; exact e⟩
theorem Ky.kp {p y h h1 h2} (a : Kp p h h1) (hy : h.length ≤ y) (b : Ky p y h1 h2) : Kp p h h2 := ⟨Nat.le_trans a.1 b.1, fun i mo hi e => b.2 i mo hi (fun q => by have := lk_lt e; omega) (a.2 i mo hi e)⟩
theorem PO.set {p q : Nat} {ns : List Int} {h : Hs} {y : Nat} {o : MO} (P : PO p q ns h) (h1 : y ≠ p) (h2 : y ≠ q) : PO p q ns (h.set y o) := by
  obtain ⟨h0, a, k, hk, e1, e2⟩ := P
  exact ⟨h0, a, k, hk, by rw [List.getElem?_set_ne h1]; exact e1, by rw [List.getElem?_set_ne h2]; exact e2⟩
theorem NM.set {z : Nat} {nms : List (List Char)} {h : Hs} {y : Nat} {o : MO} (N : NM z nms h) (h1 : y ≠ z) : NM z nms (h.set y o) := ⟨by rw [List.getElem?_set_ne h1]; exact N.1, N.2⟩
abbrev bodyT : List S := [.set 6 (.cal 5 [(.var 0)]),
    .ife (.cmp .nin (.var 6) (.lc [7] (.nm 7) .seq [(.var 4)] [] (.ix (.var 7) (.cst (.int 0)))))
      [.set 8 (.cal 4 [(.var 0), (.var 1)]),
      .expr (.met (.var 4) "append" [(.tup [(.var 6), (.var 8), (.cal 6 [(.var 0), (.var 1), (.bin .sub (.var 2) (.cst (.int 1)))])])])]
      []]
variable {W : Wd} (hW : Has W) (L : Nat)
include hW
def TalkOk (W : Wd) (L : Nat) (d : Nat) : Prop := ∀ (N p q z : Nat) (ns : List Int) (nms : List (List Char)) (h : Hs), d + 5 ≤ N → PO p q ns h → NM z nms h → z ≠ p →
  ∃ (t : T) (h' : Hs), callF W L N 6 [.ob p, .ob z, .int d] h = .ok (toD t) h' ∧ okT nms 3 t d ∧ PO p q ns h' ∧ Kp p h h' ∧ (2 ≤ d → isN t = false)
theorem talk_loop (d : Nat) (ih : TalkOk W L d) (M p q z y : Nat) (ns : List Int) (nms : List (List Char)) (hM : d + 5 ≤ M) (hz : z ≠ p) (hy : y ≠ p) (hyz : y ≠ z) (hyq : y ≠ q) (c : Int) :
    ∀ (xs : List D) (r : TR) (s5 s6 s7 s8 : Option D) (h : Hs), okR nms 3 r d → PO p q ns h → NM z nms h → h[y]? = some (.lst (rowsD r)) → lenR r + xs.length ≤ 3 →
    ∃ (σ' : Sg) (h' : Hs) (r' : TR), forI .none (fT W L (callF W L M) (.nm 5) bodyT) xs [some (.ob p), some (.ob z), some (.int (d + 1 : Int)), some (.int c), some (.ob y), s5, s6, s7, s8] h = .ok (.nx σ') h' ∧
      (∃ s5 s6 s7 s8, σ' = [some (.ob p), some (.ob z), some (.int (d + 1 : Int)), some (.int c), some (.ob y), s5, s6, s7, s8]) ∧ okR nms 3 r' d ∧ lenR r' ≤ 3 ∧ h'[y]? = some (.lst (rowsD r')) ∧ PO p q ns h' ∧ NM z nms h' ∧ Ky p y h h' := by
  intro xs
  induction xs with
  | nil =>
    intro r s5 s6 s7 s8 h ho P N hy1 hl
    exact ⟨_, h, r, forI_nil (by trivial), ⟨_, _, _, _, rfl⟩, ho, by simpa using hl, hy1, P, N, Ky.refl⟩
  | cons x xs ihx =>
    intro r s5 s6 s7 s8 h ho P N hy1 hl
    simp only [List.length_cons] at hl
    obtain ⟨s, h1, e1, ol, P1, k1⟩ := labelN hW L M p q (by omega) ns h P
    have N1 := N.kp hz k1
    have y1 := k1.2 y _ hy hy1
    have el := lbs_loop (σ := [some (.ob p), some (.ob z), some (.int (d + 1 : Int)), some (.int c), some (.ob y), some x, some (.str s), s7, s8]) (σ1 := fun d0 => [some (.ob p), some (.ob z), some (.int (d + 1 : Int)), some (.int c), some (.ob y), some x, some (.str s), some d0, s8]) (W := W) (g := .keep y (.lst (rowsD r))) (callF W L M) h1 y1 (fun _ => rfl) (fun _ => rfl) r [] (by simp [sizeLine]; omega)
    simp only [List.nil_append, endG] at el
    have yl := lk_lt y1
    have Pn : PO p q ns (h1 ++ [.lst (lbs r)]) := P1.app
    have Nn : NM z nms (h1 ++ [.lst (lbs r)]) := N1.kp hz Kp.app
    have yn : (h1 ++ [MO.lst (lbs r)])[y]? = some (.lst (rowsD r)) := lk_app y1
    have hfl : flat (.str s) = true := rfl
    have hfr := lbs_flat r
    cases hin : inL (.str s) (lbs r) with
    | true =>
      obtain ⟨σ', h', r', e9, rest⟩ := ihx r (some x) (some (.str s)) s7 s8 (h1 ++ [.lst (lbs r)]) ho Pn Nn yn (by omega)
      refine ⟨σ', h', r', ?_, rest.1, rest.2.1, rest.2.2.1, rest.2.2.2.1, rest.2.2.2.2.1, rest.2.2.2.2.2.1, (k1.trans Kp.app).ky.trans rest.2.2.2.2.2.2⟩
      rw [forI_nx (h' := h1 ++ [.lst (lbs r)]) (σ' := [some (.ob p), some (.ob z), some (.int (d + 1 : Int)), some (.int c), some (.ob y), some x, some (.str s), s7, s8]) (by trivial) ?_]
      · exact e9
      · rw [fT_some (σ1 := [some (.ob p), some (.ob z), some (.int (d + 1 : Int)), some (.int c), some (.ob y), some x, s6, s7, s8]) rfl]
        simp [q_set, q_put, q_expr, q_ret, q_retN, q_ife, q_cons, q_nil, q_cst, q_bin, q_neg, q_cmp, q_and, q_or, q_not, q_eife, q_tup, q_lst, q_dic, q_ix, q_slc, q_cal, q_blt, q_enil, q_econs, q_met, r_for, r_lc, r_var, r_ix_ob, r_sl_ob, r_put_ob, r_len_ob, r_tup_ob, r_lst_ob, r_addl, r_app, r_it_ob, r_in_ob, r_nin_ob, optI, Rf.start, e1, y1, el, lcEnd, hin, hfl, hfr]
    | false =>
      obtain ⟨pd, h2, e2, op, P2, k2⟩ := kindN hW L M p q z (by omega) ns nms _ Pn Nn hz
      have N2 := Nn.kp hz k2
      have y2 := k2.2 y _ hy yn
      obtain ⟨t, h3, e3, ot, P3, k3, _⟩ := ih M p q z ns nms h2 hM P2 N2 hz
      have N3 := N2.kp hz k3
      have y3 := k3.2 y _ hy y2
      have yl3 := lk_lt y3
      have rl : (rowsD r).length < 16777216 := by rw [rowsD_len]; omega
      obtain ⟨σ', h', r', e9, rest⟩ := ihx (addR r s pd t) (some x) (some (.str s)) s7 (some pd) (h3.set y (.lst (rowsD (addR r s pd t)))) (addR_ok ho ol (fun q => by rw [inL_labs.mpr q] at hin; cases hin) op ot) (P3.set hy hyq) (N3.set hyz) (by simp [yl3]) (by rw [addR_len]; omega)
      refine ⟨σ', h', r', ?_, rest.1, rest.2.1, rest.2.2.1, rest.2.2.2.1, rest.2.2.2.2.1, rest.2.2.2.2.2.1, ((k1.trans Kp.app).trans (k2.trans k3)).ky.trans (Ky.set.trans rest.2.2.2.2.2.2)⟩
      rw [forI_nx (h' := h3.set y (.lst (rowsD (addR r s pd t)))) (σ' := [some (.ob p), some (.ob z), some (.int (d + 1 : Int)), some (.int c), some (.ob y), some x, some (.str s), s7, some pd]) (by trivial) ?_]
      · exact e9
      · rw [fT_some (σ1 := [some (.ob p), some (.ob z), some (.int (d + 1 : Int)), some (.int c), some (.ob y), some x, s6, s7, s8]) rfl]
        simp [q_set, q_put, q_expr, q_ret, q_retN, q_ife, q_cons, q_nil, q_cst, q_bin, q_neg, q_cmp, q_and, q_or, q_not, q_eife, q_tup, q_lst, q_dic, q_ix, q_slc, q_cal, q_blt, q_enil, q_econs, q_met, r_for, r_lc, r_var, r_ix_ob, r_sl_ob, r_put_ob, r_len_ob, r_tup_ob, r_lst_ob, r_addl, r_app, r_it_ob, r_in_ob, r_nin_ob, optI, Rf.start, e1, y1, el, lcEnd, hin, hfl, hfr, e2, r_metapp y2, e3, y3, rl, addR_rows, sizeLine]
end K13
end

section
namespace K13
open PySem PySem.Spec PyProof.Rows L2 Rf
variable {W : Wd} (hW : Has W) (L : Nat)
include hW
theorem talk_ok : ∀ d : Nat, TalkOk W L d := by
  intro d
  induction d with
  | zero =>
    intro N p q z ns nms h hN P Nm hz
    obtain ⟨M, rfl⟩ : ∃ M, N = M + 1 := ⟨N - 1, by omega⟩
    rw [callF_s (hW 6 _ (by decide) rfl) rfl]
    obtain ⟨c, h1, e1, a1, b1, P1, k1⟩ := takeN hW L M p q (by omega) ns 8 (by decide) (by decide) h P
    have N1 := Nm.kp hz k1
    have hl1 : (0 : Int) < (nms.length : Int) := by have := Nm.2.1; omega
    have hl2 : (nms.length : Int) < 1073741824 := by have := Nm.2.2.1; omega
    -- one of the names behind a list of words
    have pick : ∀ ws : List D, ∃ (s : List Char) (v : Int) (h2 : Hs), s ∈ nms ∧ callF W L M 1 [.ob p, .int nms.length] (h1 ++ [.lst ws]) = .ok (.int v) h2 ∧ atI (nms.map D.str) v = some (.str s) ∧ (h1 ++ [MO.lst ws])[z]? = some (.lst (nms.map D.str)) ∧ h2[z]? = some (.lst (nms.map D.str)) ∧ PO p q ns h2 ∧ Kp p h h2 := by
      intro ws
      obtain ⟨v2, h2, e2, a2, b2, P2, k2⟩ := takeN hW L M p q (by omega) ns nms.length hl1 hl2 (h1 ++ [.lst ws]) P1.app
      have Nn : NM z nms (h1 ++ [.lst ws]) := N1.kp hz Kp.app
      obtain ⟨s, hs, i2⟩ := nm_pick Nn a2 b2
      exact ⟨s, v2, h2, hs, e2, i2, Nn.1, (Nn.kp hz k2).1, P2, k1.trans (Kp.app.trans k2)⟩
    have hc : c = 0 ∨ c = 1 ∨ c = 2 ∨ c = 3 ∨ c = 4 ∨ c = 5 ∨ c = 6 ∨ c = 7 := by omega
    obtain ⟨s, v, h2, hs, e2, i2, z1, z2, P2, k2⟩ := pick [.str cN, .str cU]
    obtain ⟨s3, v3, h3, hs3, e3, i3, z3, z4, P3, k3⟩ := pick [.str cN, .str cU, .str cE]
    rcases hc with rfl | rfl | rfl | rfl | rfl | rfl | rfl | rfl
    · refine ⟨.en, h1, ?_, by simp only [okT], P1, k1, fun _ => rfl⟩
      simp [q_set, q_put, q_expr, q_ret, q_retN, q_ife, q_cons, q_nil, q_cst, q_bin, q_neg, q_cmp, q_and, q_or, q_not, q_eife, q_tup, q_lst, q_dic, q_ix, q_slc, q_cal, q_blt, q_enil, q_econs, q_met, r_for, r_lc, r_var, r_ix_ob, r_sl_ob, r_put_ob, r_len_ob, r_tup_ob, r_lst_ob, r_addl, r_app, r_it_ob, r_in_ob, r_nin_ob, optI, Rf.start, f__law_talk, e1, toD, sizeLine]
    · refine ⟨.du s, h2, ?_, by simp only [okT]; exact hs, P2, k2, fun q => absurd q (by decide)⟩
      simp [q_set, q_put, q_expr, q_ret, q_retN, q_ife, q_cons, q_nil, q_cst, q_bin, q_neg, q_cmp, q_and, q_or, q_not, q_eife, q_tup, q_lst, q_dic, q_ix, q_slc, q_cal, q_blt, q_enil, q_econs, q_met, r_for, r_lc, r_var, r_ix_ob, r_sl_ob, r_put_ob, r_len_ob, r_tup_ob, r_lst_ob, r_addl, r_app, r_it_ob, r_in_ob, r_nin_ob, optI, Rf.start, f__law_talk, e1, toD, atI_0, atI_1, atI_2, sizeLine, e2, i2, z1, z2]
    · refine ⟨.nm s, h2, ?_, by simp only [okT]; exact hs, P2, k2, fun q => absurd q (by decide)⟩
      simp [q_set, q_put, q_expr, q_ret, q_retN, q_ife, q_cons, q_nil, q_cst, q_bin, q_neg, q_cmp, q_and, q_or, q_not, q_eife, q_tup, q_lst, q_dic, q_ix, q_slc, q_cal, q_blt, q_enil, q_econs, q_met, r_for, r_lc, r_var, r_ix_ob, r_sl_ob, r_put_ob, r_len_ob, r_tup_ob, r_lst_ob, r_addl, r_app, r_it_ob, r_in_ob, r_nin_ob, optI, Rf.start, f__law_talk, e1, toD, atI_0, atI_1, atI_2, sizeLine, e2, i2, z1, z2]
    · refine ⟨.nm s3, h3, ?_, by simp only [okT]; exact hs3, P3, k3, fun q => absurd q (by decide)⟩
      simp [q_set, q_put, q_expr, q_ret, q_retN, q_ife, q_cons, q_nil, q_cst, q_bin, q_neg, q_cmp, q_and, q_or, q_not, q_eife, q_tup, q_lst, q_dic, q_ix, q_slc, q_cal, q_blt, q_enil, q_econs, q_met, r_for, r_lc, r_var, r_ix_ob, r_sl_ob, r_put_ob, r_len_ob, r_tup_ob, r_lst_ob, r_addl, r_app, r_it_ob, r_in_ob, r_nin_ob, optI, Rf.start, f__law_talk, e1, toD, atI_0, atI_1, atI_2, sizeLine, e3, i3, z3, z4, Rf.cutD, HT.sIx]
    · refine ⟨.du s3, h3, ?_, by simp only [okT]; exact hs3, P3, k3, fun q => absurd q (by decide)⟩
      simp [q_set, q_put, q_expr, q_ret, q_retN, q_ife, q_cons, q_nil, q_cst, q_bin, q_neg, q_cmp, q_and, q_or, q_not, q_eife, q_tup, q_lst, q_dic, q_ix, q_slc, q_cal, q_blt, q_enil, q_econs, q_met, r_for, r_lc, r_var, r_ix_ob, r_sl_ob, r_put_ob, r_len_ob, r_tup_ob, r_lst_ob, r_addl, r_app, r_it_ob, r_in_ob, r_nin_ob, optI, Rf.start, f__law_talk, e1, toD, atI_0, atI_1, atI_2, sizeLine, e3, i3, z3, z4, Rf.cutD, HT.sIx]
    · refine ⟨.en, h3, ?_, by simp only [okT], P3, k3, fun q => absurd q (by decide)⟩
      simp [q_set, q_put, q_expr, q_ret, q_retN, q_ife, q_cons, q_nil, q_cst, q_bin, q_neg, q_cmp, q_and, q_or, q_not, q_eife, q_tup, q_lst, q_dic, q_ix, q_slc, q_cal, q_blt, q_enil, q_econs, q_met, r_for, r_lc, r_var, r_ix_ob, r_sl_ob, r_put_ob, r_len_ob, r_tup_ob, r_lst_ob, r_addl, r_app, r_it_ob, r_in_ob, r_nin_ob, optI, Rf.start, f__law_talk, e1, toD, atI_0, atI_1, atI_2, sizeLine, e3, i3, z3, z4, Rf.cutD, HT.sIx]
    · refine ⟨.nm s3, h3, ?_, by simp only [okT]; exact hs3, P3, k3, fun q => absurd q (by decide)⟩
      simp [q_set, q_put, q_expr, q_ret, q_retN, q_ife, q_cons, q_nil, q_cst, q_bin, q_neg, q_cmp, q_and, q_or, q_not, q_eife, q_tup, q_lst, q_dic, q_ix, q_slc, q_cal, q_blt, q_enil, q_econs, q_met, r_for, r_lc, r_var, r_ix_ob, r_sl_ob, r_put_ob, r_len_ob, r_tup_ob, r_lst_ob, r_addl, r_app, r_it_ob, r_in_ob, r_nin_ob, optI, Rf.start, f__law_talk, e1, toD, atI_0, atI_1, atI_2, sizeLine, e3, i3, z3, z4, Rf.cutD, HT.sIx]
    · refine ⟨.du s3, h3, ?_, by simp only [okT]; exact hs3, P3, k3, fun q => absurd q (by decide)⟩
      simp [q_set, q_put, q_expr, q_ret, q_retN, q_ife, q_cons, q_nil, q_cst, q_bin, q_neg, q_cmp, q_and, q_or, q_not, q_eife, q_tup, q_lst, q_dic, q_ix, q_slc, q_cal, q_blt, q_enil, q_econs, q_met, r_for, r_lc, r_var, r_ix_ob, r_sl_ob, r_put_ob, r_len_ob, r_tup_ob, r_lst_ob, r_addl, r_app, r_it_ob, r_in_ob, r_nin_ob, optI, Rf.start, f__law_talk, e1, toD, atI_0, atI_1, atI_2, sizeLine, e3, i3, z3, z4, Rf.cutD, HT.sIx]
  | succ d ih =>
    intro N p q z ns nms h hN P Nm hz
    obtain ⟨M, rfl⟩ : ∃ M, N = M + 1 := ⟨N - 1, by omega⟩
    rw [callF_s (hW 6 _ (by decide) rfl) rfl]
    obtain ⟨c, h1, e1, a1, b1, P1, k1⟩ := takeN hW L M p q (by omega) ns 8 (by decide) (by decide) h P
    have N1 := Nm.kp hz k1
    have hl1 : (0 : Int) < (nms.length : Int) := by have := Nm.2.1; omega
    have hl2 : (nms.length : Int) < 1073741824 := by have := Nm.2.2.1; omega
    by_cases hc0 : c = 0
    · subst hc0
      refine ⟨.en, h1, ?_, by simp only [okT], P1, k1, fun _ => rfl⟩
      simp [q_set, q_put, q_expr, q_ret, q_retN, q_ife, q_cons, q_nil, q_cst, q_bin, q_neg, q_cmp, q_and, q_or, q_not, q_eife, q_tup, q_lst, q_dic, q_ix, q_slc, q_cal, q_blt, q_enil, q_econs, q_met, r_for, r_lc, r_var, r_ix_ob, r_sl_ob, r_put_ob, r_len_ob, r_tup_ob, r_lst_ob, r_addl, r_app, r_it_ob, r_in_ob, r_nin_ob, optI, Rf.start, f__law_talk, e1, toD, sizeLine]
    by_cases hcd : c < 3 ∧ d + 1 < 2
    · obtain ⟨hc3, hd⟩ := hcd
      obtain rfl : d = 0 := by omega
      have hc : c = 1 ∨ c = 2 := by omega
      obtain ⟨v2, h2, e2, a2, b2, P2, k2⟩ := takeN hW L M p q (by omega) ns nms.length hl1 hl2 (h1 ++ [.lst [.str cN, .str cU]]) P1.app
      have Nn : NM z nms (h1 ++ [.lst [.str cN, .str cU]]) := N1.kp hz Kp.app
      obtain ⟨s, hs, i2⟩ := nm_pick Nn a2 b2
      have z1 := Nn.1
      have z2 := (Nn.kp hz k2).1
      rcases hc with rfl | rfl
      · refine ⟨.du s, h2, ?_, by simp only [okT]; exact hs, P2, k1.trans (Kp.app.trans k2), fun q => absurd q (by decide)⟩
        simp [q_set, q_put, q_expr, q_ret, q_retN, q_ife, q_cons, q_nil, q_cst, q_bin, q_neg, q_cmp, q_and, q_or, q_not, q_eife, q_tup, q_lst, q_dic, q_ix, q_slc, q_cal, q_blt, q_enil, q_econs, q_met, r_for, r_lc, r_var, r_ix_ob, r_sl_ob, r_put_ob, r_len_ob, r_tup_ob, r_lst_ob, r_addl, r_app, r_it_ob, r_in_ob, r_nin_ob, optI, Rf.start, f__law_talk, e1, toD, atI_0, atI_1, atI_2, sizeLine, e2, i2, z1, z2]
      · refine ⟨.nm s, h2, ?_, by simp only [okT]; exact hs, P2, k1.trans (Kp.app.trans k2), fun q => absurd q (by decide)⟩
        simp [q_set, q_put, q_expr, q_ret, q_retN, q_ife, q_cons, q_nil, q_cst, q_bin, q_neg, q_cmp, q_and, q_or, q_not, q_eife, q_tup, q_lst, q_dic, q_ix, q_slc, q_cal, q_blt, q_enil, q_econs, q_met, r_for, r_lc, r_var, r_ix_ob, r_sl_ob, r_put_ob, r_len_ob, r_tup_ob, r_lst_ob, r_addl, r_app, r_it_ob, r_in_ob, r_nin_ob, optI, Rf.start, f__law_talk, e1, toD, atI_0, atI_1, atI_2, sizeLine, e2, i2, z1, z2]
    · obtain ⟨m, h2, e2, a2, b2, P2, k2⟩ := takeN hW L M p q (by omega) ns 3 (by decide) (by decide) (h1 ++ [.lst []]) P1.app
      have y1 : h2[h1.length]? = some (.lst []) := k2.2 h1.length _ (by have := P1.lt; omega) lk_new
      have Nn : NM z nms h2 := (N1.kp hz Kp.app).kp hz k2
      have hyp : h1.length ≠ p := by have := P1.lt; omega
      have hyz : h1.length ≠ z := by have := lk_lt N1.1; omega
      have hyq : h1.length ≠ q := by
        obtain ⟨_, _, _, _, _, e⟩ := P1
        have := lk_lt e; omega
      obtain ⟨σ', h3, r', e3, ⟨s5, s6, s7, s8, rfl⟩, o3, l3, y3, P3, N3, k3⟩ := talk_loop hW L d ih M p q z h1.length ns nms (by omega) hz hyp hyz hyq c ((List.range (1 + m).toNat).map fun (i : Nat) => D.int (0 + (i : Int))) .nil none none none none h2 (by simp only [okR]) P2 Nn y1 (by simp [lenR]; omega)
      have hm1 : 0 ≤ 1 + m := by omega
      have hm2 : 1 + m ≤ 1000000 := by omega
      have hd1 : ¬ ((d : Int) + 1 = 0) := by omega
      have hcd' : ¬ (c < 3 ∧ (d : Int) + 1 < 2) := by omega
      have hf0 := Int.fmod_nonneg_of_pos c (b := 2) (by decide)
      have hf1 := Int.fmod_lt_of_pos c (b := 2) (by decide)
      have hf : c.fmod 2 = 0 ∨ c.fmod 2 = 1 := by omega
      have kk : Kp p h h3 := Ky.kp (k1.trans (Kp.app.trans k2)) k1.1 k3
      simp only [Int.zero_add] at e3
      have y3' := lk_app (t := [.lst [.str cS, .str cH]]) y3
      have ln : (h3 ++ [MO.lst [D.str cS, .str cH]])[h3.length]? = some (.lst [.str cS, .str cH]) := lk_new
      by_cases hc3 : c < 3
      · have hd2 : ¬ ((d : Int) + 1 < 2) := by omega
        rcases hf with hf | hf
        · refine ⟨.say r', h3 ++ [.lst [.str cS, .str cH]], ?_, by simp only [okT]; exact ⟨l3, o3⟩, P3.app, kk.trans Kp.app, fun _ => rfl⟩
          simp [q_set, q_put, q_expr, q_ret, q_retN, q_ife, q_cons, q_nil, q_cst, q_bin, q_neg, q_cmp, q_and, q_or, q_not, q_eife, q_tup, q_lst, q_dic, q_ix, q_slc, q_cal, q_blt, q_enil, q_econs, q_met, r_for, r_lc, r_var, r_ix_ob, r_sl_ob, r_put_ob, r_len_ob, r_tup_ob, r_lst_ob, r_addl, r_app, r_it_ob, r_in_ob, r_nin_ob, optI, Rf.start, f__law_talk, e1, toD, hc0, hc3, hd1, hd2, e2, rng_small hm1 hm2, e3, hf, atI_0, atI_1, y3', sizeLine]
        · refine ⟨.hear r', h3 ++ [.lst [.str cS, .str cH]], ?_, by simp only [okT]; exact ⟨l3, o3⟩, P3.app, kk.trans Kp.app, fun _ => rfl⟩
          simp [q_set, q_put, q_expr, q_ret, q_retN, q_ife, q_cons, q_nil, q_cst, q_bin, q_neg, q_cmp, q_and, q_or, q_not, q_eife, q_tup, q_lst, q_dic, q_ix, q_slc, q_cal, q_blt, q_enil, q_econs, q_met, r_for, r_lc, r_var, r_ix_ob, r_sl_ob, r_put_ob, r_len_ob, r_tup_ob, r_lst_ob, r_addl, r_app, r_it_ob, r_in_ob, r_nin_ob, optI, Rf.start, f__law_talk, e1, toD, hc0, hc3, hd1, hd2, e2, rng_small hm1 hm2, e3, hf, atI_0, atI_1, y3', sizeLine]
      · rcases hf with hf | hf
        · refine ⟨.say r', h3 ++ [.lst [.str cS, .str cH]], ?_, by simp only [okT]; exact ⟨l3, o3⟩, P3.app, kk.trans Kp.app, fun _ => rfl⟩
          simp [q_set, q_put, q_expr, q_ret, q_retN, q_ife, q_cons, q_nil, q_cst, q_bin, q_neg, q_cmp, q_and, q_or, q_not, q_eife, q_tup, q_lst, q_dic, q_ix, q_slc, q_cal, q_blt, q_enil, q_econs, q_met, r_for, r_lc, r_var, r_ix_ob, r_sl_ob, r_put_ob, r_len_ob, r_tup_ob, r_lst_ob, r_addl, r_app, r_it_ob, r_in_ob, r_nin_ob, optI, Rf.start, f__law_talk, e1, toD, hc0, hc3, hd1, e2, rng_small hm1 hm2, e3, hf, atI_0, atI_1, y3', sizeLine]
        · refine ⟨.hear r', h3 ++ [.lst [.str cS, .str cH]], ?_, by simp only [okT]; exact ⟨l3, o3⟩, P3.app, kk.trans Kp.app, fun _ => rfl⟩
          simp [q_set, q_put, q_expr, q_ret, q_retN, q_ife, q_cons, q_nil, q_cst, q_bin, q_neg, q_cmp, q_and, q_or, q_not, q_eife, q_tup, q_lst, q_dic, q_ix, q_slc, q_cal, q_blt, q_enil, q_econs, q_met, r_for, r_lc, r_var, r_ix_ob, r_sl_ob, r_put_ob, r_len_ob, r_tup_ob, r_lst_ob, r_addl, r_app, r_it_ob, r_in_ob, r_nin_ob, optI, Rf.start, f__law_talk, e1, toD, hc0, hc3, hd1, e2, rng_small hm1 hm2, e3, hf, atI_0, atI_1, y3', sizeLine]
end K13
end

section
namespace K13
open PySem PySem.Spec PyProof.Rows L2 Rf
/-- a table's pairs -/
def TB (nms : List (List Char)) (kvs : List (D × D)) : Prop := ∀ x ∈ kvs, ∃ s t, x = (D.str s, toD t) ∧ okT nms 3 t 2
variable {nms : List (List Char)}
theorem TB.nil : TB nms [] := fun _ h => by simp at h
theorem TB.okK {kvs : List (D × D)} (h : TB nms kvs) (s : List Char) : okK false kvs (.str s) = true := by
  simp only [Rf.okK, Bool.false_eq_true, if_false, isK, Bool.true_and, List.all_eq_true]
  intro x hx
  obtain ⟨s, t, rfl, _⟩ := h x hx
  rfl
theorem TB.put {kvs : List (D × D)} (h : TB nms kvs) {s : List Char} {t : T} (ht : okT nms 3 t 2) : TB nms (kvPut kvs (.str s) (toD t)) ∧ (kvPut kvs (.str s) (toD t)).length ≤ kvs.length + 1 ∧ 0 < (kvPut kvs (.str s) (toD t)).length := by
  unfold kvPut
  split
  · rename_i ha
    refine ⟨fun x hx => ?_, by simp, ?_⟩
    · obtain ⟨y, hy, rfl⟩ := List.mem_map.mp hx
      obtain ⟨s', t', rfl, ho⟩ := h y hy
      split
      · exact ⟨_, _, rfl, ht⟩
      · exact ⟨_, _, rfl, ho⟩
    · rw [List.length_map]
      cases kvs with
      | nil => simp at ha
      | cons a b => simp
  · refine ⟨fun x hx => ?_, by simp, by simp⟩
    rcases List.mem_append.mp hx with hx | hx
    · exact h x hx
    · rw [List.mem_singleton] at hx; subst hx; exact ⟨_, _, rfl, ht⟩
theorem TB.get {kvs : List (D × D)} (h : TB nms kvs) {s : List Char} (hm : D.str s ∈ kvs.map (·.1)) : ∃ t, kvGet kvs (.str s) = some (toD t) ∧ okT nms 3 t 2 := by
  induction kvs with
  | nil => simp at hm
  | cons x kvs ih =>
    obtain ⟨s', t', rfl, ho⟩ := h x (List.mem_cons_self)
    unfold kvGet
    by_cases he : eqv (.str s') (.str s) = true
    · exact ⟨t', by simp [he], ho⟩
    · have : ∃ t, kvGet kvs (.str s) = some (toD t) ∧ okT nms 3 t 2 := by
        refine ih (fun y hy => h y (List.mem_cons_of_mem _ hy)) ?_
        simp only [List.map_cons, List.mem_cons] at hm
        rcases hm with hm | hm
        · exfalso; apply he; cases hm; simp [eqv]
        · exact hm
      obtain ⟨t, e1, e2⟩ := this
      exact ⟨t, by simp [he, e1], e2⟩
theorem TB.names {kvs : List (D × D)} (h : TB nms kvs) : ∃ nms : List (List Char), kvs.map (·.1) = nms.map D.str ∧ nms.length = kvs.length := by
  induction kvs with
  | nil => exact ⟨[], rfl, rfl⟩
  | cons x kvs ih =>
    obtain ⟨s', t', rfl, ho⟩ := h x (List.mem_cons_self)
    obtain ⟨nms, e1, e2⟩ := ih (fun y hy => h y (List.mem_cons_of_mem _ hy))
    exact ⟨s' :: nms, by simp [e1], by simp [e2]⟩
abbrev bodyB : List S := [.set 4 (.cal 6 [(.var 0), (.var 1), (.cst (.int 2))]),
    .ife (.and (.cmp .eq (.cal 1 [(.var 0), (.cst (.int 9))]) (.cst (.int 0))) (.cmp .lt (.bin .add (.var 3) (.cst (.int 1))) (.blt .len [(.var 1)])))
      [.set 4 (.tup [(.ix (.lst [(.cst (.str ['n', 'a', 'm', 'e'])), (.cst (.str ['d', 'u', 'a', 'l']))]) (.cal 1 [(.var 0), (.cst (.int 2))])), (.ix (.var 1) (.bin .add (.var 3) (.cst (.int 1))))])]
      [],
    .put (.var 2) (.ix (.var 1) (.var 3)) (.var 4)]
/-- the k-th talk: a head, or the name behind it -/
def Fit (nms : List (List Char)) (i : Nat) (t : T) : Prop := okT nms 3 t 2 ∧ (isN t = false ∨ ∃ s, nms[i + 1]? = some s ∧ (t = .nm s ∨ t = .du s))
def TI (nms : List (List Char)) (k : Nat) (kvs : List (D × D)) : Prop := kvs.map (·.1) = (nms.take k).map D.str ∧ ∀ (i : Nat) (s : List Char), i < k → nms[i]? = some s → ∃ t, kvGet kvs (.str s) = some (toD t) ∧ Fit nms i t
theorem kvPut_new {kvs : List (D × D)} {k v : D} (h : ∀ p ∈ kvs, eqv p.1 k = false) : kvPut kvs k v = kvs ++ [(k, v)] := by
  unfold kvPut
  rw [if_neg]
  simp only [List.any_eq_true, not_exists, not_and]
  intro p hp
  rw [h p hp]; simp
theorem kvGet_app {kvs : List (D × D)} {k v k' : D} : kvGet (kvs ++ [(k, v)]) k' = match kvGet kvs k' with | some d => some d | none => if eqv k k' then some v else none := by
  induction kvs with
  | nil => simp [kvGet]
  | cons p kvs ih =>
    obtain ⟨a, b⟩ := p
    rw [List.cons_append]
    unfold kvGet
    by_cases he : eqv a k' = true
    · simp [he]
    · simp only [he, if_false, Bool.false_eq_true]; rw [ih]
theorem kvGet_none {kvs : List (D × D)} {k : D} (h : ∀ p ∈ kvs, eqv p.1 k = false) : kvGet kvs k = none := by
  induction kvs with
  | nil => rfl
  | cons p kvs ih =>
    obtain ⟨a, b⟩ := p
    unfold kvGet
    have := h (a, b) List.mem_cons_self
    simp only at this
    simp [this, ih fun q hq => h q (List.mem_cons_of_mem _ hq)]
theorem TI.put {nms : List (List Char)} {k : Nat} {kvs : List (D × D)} {s : List Char} {t : T} (h : TI nms k kvs) (nd : nms.Nodup) (hs : nms[k]? = some s) (ft : Fit nms k t) : TI nms (k + 1) (kvPut kvs (.str s) (toD t)) := by
  obtain ⟨h1, h2⟩ := h
  have hk := (List.getElem?_eq_some_iff.mp hs).1
  have hnew : ∀ p ∈ kvs, eqv p.1 (.str s) = false := by
    intro p hp
    have : p.1 ∈ kvs.map (·.1) := List.mem_map.mpr ⟨p, hp, rfl⟩
    rw [h1] at this
    obtain ⟨s', hs', e⟩ := List.mem_map.mp this
    rw [← e]
    simp only [eqv]
    apply beq_false_of_ne
    rintro rfl
    obtain ⟨i, hi⟩ := List.mem_iff_getElem?.mp hs'
    have hik : i < k := by
      have := (List.getElem?_eq_some_iff.mp hi).1
      rw [List.length_take] at this; omega
    rw [List.getElem?_take_of_lt hik] at hi
    have hi2 := (List.getElem?_eq_some_iff.mp hi).1
    have := (List.getElem?_inj hi2 nd).mp (hi.trans hs.symm)
    omega
  rw [kvPut_new hnew]
  refine ⟨?_, fun i s' hi hi' => ?_⟩
  · rw [List.map_append, h1, List.take_add_one, hs]; simp
  · rw [kvGet_app]
    by_cases hik : i < k
    · obtain ⟨t', e, f⟩ := h2 i s' hik hi'
      exact ⟨t', by rw [e], f⟩
    · obtain rfl : i = k := by omega
      rw [hs] at hi'; cases hi'
      exact ⟨t, by rw [kvGet_none hnew]; simp [eqv], ft⟩
variable {W : Wd} (hW : Has W) (L : Nat)
include hW
theorem table_loop (M p q z y : Nat) (ns : List Int) (nms : List (List Char)) (nd : nms.Nodup) (hM : 7 ≤ M) (hz : z ≠ p) (hy : y ≠ p) (hyz : y ≠ z) (hyq : y ≠ q) :
    ∀ (m k : Nat), k + m = nms.length → ∀ (kvs : List (D × D)) (s3 s4 : Option D) (h : Hs), TB nms kvs → TI nms k kvs → PO p q ns h → NM z nms h → h[y]? = some (.dic false false kvs) →
    ∃ (σ' : Sg) (h' : Hs) (kvs' : List (D × D)), forI .none (fT W L (callF W L M) (.nm 3) bodyB) ((List.range' k m).map fun (i : Nat) => D.int (i : Int)) [some (.ob p), some (.ob z), some (.ob y), s3, s4] h = .ok (.nx σ') h' ∧
      (∃ s3 s4, σ' = [some (.ob p), some (.ob z), some (.ob y), s3, s4]) ∧ TB nms kvs' ∧ TI nms nms.length kvs' ∧ h'[y]? = some (.dic false false kvs') ∧ PO p q ns h' ∧ NM z nms h' ∧ Ky p y h h' := by
  intro m
  induction m with
  | zero =>
    intro k hkm kvs s3 s4 h hT hI P N hy1
    obtain rfl : k = nms.length := by omega
    exact ⟨_, h, kvs, by rw [List.range'_zero, List.map_nil]; exact forI_nil (by trivial), ⟨_, _, rfl⟩, hT, hI, hy1, P, N, Ky.refl⟩
  | succ m ihx =>
    intro k hkm kvs s3 s4 h hT hI P N hy1
    rw [List.range'_succ, List.map_cons]
    have hkn : k < nms.length := by omega
    obtain ⟨sk, hsk⟩ : ∃ s, nms[k]? = some s := ⟨nms[k], by simp [hkn]⟩
    have isk : atI (nms.map D.str) (k : Int) = some (.str sk) := by
      rw [atI_nat (by simpa using hkn)]
      have := (List.getElem?_eq_some_iff.mp hsk).2
      simp [this]
    have hkl : kvs.length = k := by
      have := congrArg List.length hI.1
      simp at this; omega
    have n3 := N.2.2.1
    obtain ⟨t, h1, e1, ot, P1, k1, hN⟩ := talk_ok hW L 2 M p q z ns nms h (by omega) P N hz
    have hN := hN (by omega)
    rw [show ((2 : Nat) : Int) = 2 from rfl] at e1
    have N1 := N.kp hz k1
    obtain ⟨v2, h2, e2, a2, b2, P2, k2⟩ := takeN hW L M p q (by omega) ns 9 (by decide) (by decide) h1 P1
    have N2 := N1.kp hz k2
    have y2 := k2.2 y _ hy (k1.2 y _ hy hy1)
    have fin : ∀ (t2 : T) (h3 : Hs), Fit nms k t2 → PO p q ns h3 → Kp p h2 h3 →
        evalB W L (callF W L M) none [.ife (.and (.cmp .eq (.cal 1 [(.var 0), (.cst (.int 9))]) (.cst (.int 0))) (.cmp .lt (.bin .add (.var 3) (.cst (.int 1))) (.blt .len [(.var 1)]))) [.set 4 (.tup [(.ix (.lst [(.cst (.str ['n', 'a', 'm', 'e'])), (.cst (.str ['d', 'u', 'a', 'l']))]) (.cal 1 [(.var 0), (.cst (.int 2))])), (.ix (.var 1) (.bin .add (.var 3) (.cst (.int 1))))])] []] [some (.ob p), some (.ob z), some (.ob y), some (.int k), some (toD t)] h1 = .ok (.nx [some (.ob p), some (.ob z), some (.ob y), some (.int k), some (toD t2)]) h3 →
        ∃ (σ' : Sg) (h' : Hs) (kvs' : List (D × D)), forI .none (fT W L (callF W L M) (.nm 3) bodyB) (.int k :: (List.range' (k + 1) m).map fun (i : Nat) => D.int (i : Int)) [some (.ob p), some (.ob z), some (.ob y), s3, s4] h = .ok (.nx σ') h' ∧
          (∃ s3 s4, σ' = [some (.ob p), some (.ob z), some (.ob y), s3, s4]) ∧ TB nms kvs' ∧ TI nms nms.length kvs' ∧ h'[y]? = some (.dic false false kvs') ∧ PO p q ns h' ∧ NM z nms h' ∧ Ky p y h h' := by
      intro t2 h3 ft P3 k3 e3
      have N3 := N2.kp hz k3
      have y3 := k3.2 y _ hy y2
      have yl3 := lk_lt y3
      have n3 := N3.1
      obtain ⟨p1, p2, p3⟩ := hT.put (s := sk) ft.1
      have kl : kvs.length < 16777216 := by omega
      have ok1 := hT.okK sk
      obtain ⟨σ', h', kvs', e9, r1, r2, rest⟩ := ihx (k + 1) (by omega) (kvPut kvs (.str sk) (toD t2)) (some (.int k)) (some (toD t2)) (h3.set y (.dic false false (kvPut kvs (.str sk) (toD t2)))) p1 (hI.put nd hsk ft) (P3.set hy hyq) (N3.set hyz) (by simp [yl3])
      refine ⟨σ', h', kvs', ?_, r1, r2, rest.1, rest.2.1, rest.2.2.1, rest.2.2.2.1, ((k1.trans k2).trans k3).ky.trans (Ky.set.trans rest.2.2.2.2)⟩
      rw [forI_nx (h' := h3.set y (.dic false false (kvPut kvs (.str sk) (toD t2)))) (σ' := [some (.ob p), some (.ob z), some (.ob y), some (.int k), some (toD t2)]) (by trivial) ?_]
      · exact e9
      · rw [fT_some (σ1 := [some (.ob p), some (.ob z), some (.ob y), some (.int k), s4]) rfl]
        rw [q_cons]
        have e4 : evalS W L (callF W L M) none (.set 4 (.cal 6 [(.var 0), (.var 1), (.cst (.int 2))])) [some (.ob p), some (.ob z), some (.ob y), some (.int k), s4] h = .ok (.nx [some (.ob p), some (.ob z), some (.ob y), some (.int k), some (toD t)]) h1 := by
          simp [q_set, q_put, q_expr, q_ret, q_retN, q_ife, q_cons, q_nil, q_cst, q_bin, q_neg, q_cmp, q_and, q_or, q_not, q_eife, q_tup, q_lst, q_dic, q_ix, q_slc, q_cal, q_blt, q_enil, q_econs, q_met, r_for, r_lc, r_var, r_ix_ob, r_sl_ob, r_put_ob, r_len_ob, r_tup_ob, r_lst_ob, r_addl, r_app, r_it_ob, r_in_ob, r_nin_ob, optI, Rf.start, e1]
        rw [e4, RS.then_nx, q_cons]
        rw [q_cons] at e3
        generalize evalS W L (callF W L M) none (.ife _ _ _) _ h1 = r at e3 ⊢
        match r with
        | .ok (.nx σ9) h9 =>
          simp only [RS.then_nx, q_nil, RS.ok.injEq, Fl.nx.injEq] at e3
          obtain ⟨rfl, rfl⟩ := e3
          simp [q_set, q_put, q_expr, q_ret, q_retN, q_ife, q_cons, q_nil, q_cst, q_bin, q_neg, q_cmp, q_and, q_or, q_not, q_eife, q_tup, q_lst, q_dic, q_ix, q_slc, q_cal, q_blt, q_enil, q_econs, q_met, r_for, r_lc, r_var, r_ix_ob, r_sl_ob, r_put_ob, r_len_ob, r_tup_ob, r_lst_ob, r_addl, r_app, r_it_ob, r_in_ob, r_nin_ob, optI, Rf.start, n3, isk, y3, ok1, kl, sizeLine]
        | .ok (.rt _) _ => simp at e3
        | .ok (.bk _) _ => simp at e3
        | .ok (.ct _) _ => simp at e3
        | .exc _ _ _ _ => simp at e3
        | .no => simp at e3
    by_cases hc : v2 = 0 ∧ (k : Int) + 1 < (nms.length : Int)
    · obtain ⟨rfl, hk2⟩ := hc
      obtain ⟨v3, h3, e3, a3, b3, P3, k3⟩ := takeN hW L M p q (by omega) ns 2 (by decide) (by decide) (h2 ++ [.lst [.str cN, .str cU]]) P2.app
      have Nn : NM z nms (h2 ++ [.lst [.str cN, .str cU]]) := N2.kp hz Kp.app
      have ln := k3.2 h2.length _ (by have := P2.lt; omega) lk_new
      have N3 := Nn.kp hz k3
      have n2 := N2.1
      have n3 := N3.1
      have hk3 : k + 1 < nms.length := by omega
      obtain ⟨s, hs⟩ : ∃ s, nms[k + 1]? = some s := ⟨nms[k + 1], by simp [hk3]⟩
      have is : atI (nms.map D.str) ((k : Int) + 1) = some (.str s) := by
        have q := atI_nat (xs := nms.map D.str) (i := k + 1) (by simpa using hk3)
        have := (List.getElem?_eq_some_iff.mp hs).2
        rw [show (((k + 1 : Nat)) : Int) = (k : Int) + 1 by omega] at q
        rw [q]; simp [this]
      have hv : v3 = 0 ∨ v3 = 1 := by omega
      rcases hv with rfl | rfl
      · refine fin (.nm s) h3 ⟨by simp only [okT]; exact List.mem_of_getElem? hs, .inr ⟨s, hs, .inl rfl⟩⟩ P3 (Kp.app.trans k3) ?_
        simp [q_set, q_put, q_expr, q_ret, q_retN, q_ife, q_cons, q_nil, q_cst, q_bin, q_neg, q_cmp, q_and, q_or, q_not, q_eife, q_tup, q_lst, q_dic, q_ix, q_slc, q_cal, q_blt, q_enil, q_econs, q_met, r_for, r_lc, r_var, r_ix_ob, r_sl_ob, r_put_ob, r_len_ob, r_tup_ob, r_lst_ob, r_addl, r_app, r_it_ob, r_in_ob, r_nin_ob, optI, Rf.start, e2, hk2, n2, e3, ln, atI_0, atI_1, n3, is, toD, sizeLine]
      · refine fin (.du s) h3 ⟨by simp only [okT]; exact List.mem_of_getElem? hs, .inr ⟨s, hs, .inr rfl⟩⟩ P3 (Kp.app.trans k3) ?_
        simp [q_set, q_put, q_expr, q_ret, q_retN, q_ife, q_cons, q_nil, q_cst, q_bin, q_neg, q_cmp, q_and, q_or, q_not, q_eife, q_tup, q_lst, q_dic, q_ix, q_slc, q_cal, q_blt, q_enil, q_econs, q_met, r_for, r_lc, r_var, r_ix_ob, r_sl_ob, r_put_ob, r_len_ob, r_tup_ob, r_lst_ob, r_addl, r_app, r_it_ob, r_in_ob, r_nin_ob, optI, Rf.start, e2, hk2, n2, e3, ln, atI_0, atI_1, n3, is, toD, sizeLine]
    · refine fin t h2 ⟨ot, .inl hN⟩ P2 Kp.refl ?_
      have n2 := N2.1
      by_cases hv : v2 = 0
      · have hk2 : ¬ ((k : Int) + 1 < (nms.length : Int)) := fun q => hc ⟨hv, q⟩
        subst hv
        simp [q_set, q_put, q_expr, q_ret, q_retN, q_ife, q_cons, q_nil, q_cst, q_bin, q_neg, q_cmp, q_and, q_or, q_not, q_eife, q_tup, q_lst, q_dic, q_ix, q_slc, q_cal, q_blt, q_enil, q_econs, q_met, r_for, r_lc, r_var, r_ix_ob, r_sl_ob, r_put_ob, r_len_ob, r_tup_ob, r_lst_ob, r_addl, r_app, r_it_ob, r_in_ob, r_nin_ob, optI, Rf.start, e2, hk2, n2]
      · simp [q_set, q_put, q_expr, q_ret, q_retN, q_ife, q_cons, q_nil, q_cst, q_bin, q_neg, q_cmp, q_and, q_or, q_not, q_eife, q_tup, q_lst, q_dic, q_ix, q_slc, q_cal, q_blt, q_enil, q_econs, q_met, r_for, r_lc, r_var, r_ix_ob, r_sl_ob, r_put_ob, r_len_ob, r_tup_ob, r_lst_ob, r_addl, r_app, r_it_ob, r_in_ob, r_nin_ob, optI, Rf.start, e2, hv, n2]
theorem table_ok (N p q : Nat) (hN : 8 ≤ N) (ns : List Int) (h : Hs) (P : PO p q ns h) :
    ∃ (y : Nat) (kvs : List (D × D)) (nms : List (List Char)) (h' : Hs), callF W L N 7 [.ob p] h = .ok (.ob y) h' ∧ TB nms kvs ∧ TI nms nms.length kvs ∧ nms.Nodup ∧ 0 < nms.length ∧ nms.length ≤ 3 ∧ (∀ s ∈ nms, okL s) ∧ h'[y]? = some (.dic false false kvs) ∧ PO p q ns h' ∧ h.length ≤ y ∧ y ≠ p := by
  obtain ⟨M, rfl⟩ : ∃ M, N = M + 1 := ⟨N - 1, by omega⟩
  rw [callF_s (hW 7 _ (by decide) rfl) rfl]
  obtain ⟨z, nms, h1, e1, N1, P1, k1, hz1, nd⟩ := namesN hW L M p q (by omega) ns h P
  have pl := P.lt
  have pl1 := P1.lt
  have zl := lk_lt N1.1
  have hn1 := N1.2.1
  have hn2 := N1.2.2.1
  have n1 := N1.1
  have hyq : h1.length ≠ q := by
    obtain ⟨_, _, _, _, _, e⟩ := P1
    have := lk_lt e; omega
  obtain ⟨σ', h', kvs', e9, ⟨s3, s4, rfl⟩, r2, r3, r5, r6, r7, r8⟩ := table_loop hW L M p q z h1.length ns nms nd (by omega) (by omega) (by omega) (by omega) hyq nms.length 0 (by omega)
    [] none none (h1 ++ [.dic false false []]) TB.nil ⟨by simp, fun i s hi => by omega⟩ P1.app (N1.kp (p := p) (by omega) Kp.app) lk_new
  refine ⟨h1.length, kvs', nms, h', ?_, r2, r3, nd, hn1, hn2, N1.2.2.2, r5, r6, k1.1, by omega⟩
  have n1' := lk_app (t := [.dic false false []]) n1
  have hm1 : (0 : Int) ≤ nms.length := by omega
  have hm2 : (nms.length : Int) ≤ 1000000 := by omega
  rw [← List.range_eq_range'] at e9
  have eb : f__law_table.body = [.set 1 (.cal 3 [(.var 0)]), .set 2 (.dic false [] []), .for_ (.nm 3) .rng1 [(.blt .len [(.var 1)])] bodyB, .ret (.var 2)] := rfl
  have es : Rf.start f__law_table.ns [D.ob p] = [some (.ob p), none, none, none, none] := rfl
  rw [eb, es]
  generalize bodyB = B at e9 ⊢
  have s1 : evalS W L (callF W L M) none (.set 1 (.cal 3 [(.var 0)])) [some (.ob p), none, none, none, none] h = .ok (.nx [some (.ob p), some (.ob z), none, none, none]) h1 := by simp [q_set, q_put, q_expr, q_ret, q_retN, q_ife, q_cons, q_nil, q_cst, q_bin, q_neg, q_cmp, q_and, q_or, q_not, q_eife, q_tup, q_lst, q_dic, q_ix, q_slc, q_cal, q_blt, q_enil, q_econs, q_met, r_for, r_lc, r_var, r_ix_ob, r_sl_ob, r_put_ob, r_len_ob, r_tup_ob, r_lst_ob, r_addl, r_app, r_it_ob, r_in_ob, r_nin_ob, optI, Rf.start, e1]
  have s2 : evalS W L (callF W L M) none (.set 2 (.dic false [] [])) [some (.ob p), some (.ob z), none, none, none] h1 = .ok (.nx [some (.ob p), some (.ob z), some (.ob h1.length), none, none]) (h1 ++ [.dic false false []]) := by simp [q_set, q_put, q_expr, q_ret, q_retN, q_ife, q_cons, q_nil, q_cst, q_bin, q_neg, q_cmp, q_and, q_or, q_not, q_eife, q_tup, q_lst, q_dic, q_ix, q_slc, q_cal, q_blt, q_enil, q_econs, q_met, r_for, r_lc, r_var, r_ix_ob, r_sl_ob, r_put_ob, r_len_ob, r_tup_ob, r_lst_ob, r_addl, r_app, r_it_ob, r_in_ob, r_nin_ob, optI, Rf.start]
  have s3 : evalS W L (callF W L M) none (.for_ (.nm 3) .rng1 [(.blt .len [(.var 1)])] B) [some (.ob p), some (.ob z), some (.ob h1.length), none, none] (h1 ++ [.dic false false []]) = .ok (.nx [some (.ob p), some (.ob z), some (.ob h1.length), s3, s4]) h' := by
    have a1 : evalEs W (callF W L M) none [(.blt .len [(.var 1)])] [some (.ob p), some (.ob z), some (.ob h1.length), none, none] (h1 ++ [.dic false false []]) = .ok [.int nms.length] (h1 ++ [.dic false false []]) := by
      simp [q_set, q_put, q_expr, q_ret, q_retN, q_ife, q_cons, q_nil, q_cst, q_bin, q_neg, q_cmp, q_and, q_or, q_not, q_eife, q_tup, q_lst, q_dic, q_ix, q_slc, q_cal, q_blt, q_enil, q_econs, q_met, r_for, r_lc, r_var, r_ix_ob, r_sl_ob, r_put_ob, r_len_ob, r_tup_ob, r_lst_ob, r_addl, r_app, r_it_ob, r_in_ob, r_nin_ob, optI, Rf.start, n1']
    rw [r_for, a1, R.stm_ok, rng_small hm1 hm2, ofO_some, R.stm_ok, Int.toNat_natCast]
    exact e9
  rw [q_cons, s1, RS.then_nx, q_cons, s2, RS.then_nx, q_cons, s3, RS.then_nx]
  simp [q_set, q_put, q_expr, q_ret, q_retN, q_ife, q_cons, q_nil, q_cst, q_bin, q_neg, q_cmp, q_and, q_or, q_not, q_eife, q_tup, q_lst, q_dic, q_ix, q_slc, q_cal, q_blt, q_enil, q_econs, q_met, r_for, r_lc, r_var, r_ix_ob, r_sl_ob, r_put_ob, r_len_ob, r_tup_ob, r_lst_ob, r_addl, r_app, r_it_ob, r_in_ob, r_nin_ob, optI, Rf.start]
end K13
end

section
namespace K13
open PySem PySem.Spec PyProof.Rows L2 Rf
section
variable {nms : List (List Char)} {bb : Nat} {W : Wd} (hW : Has W) (L : Nat)
include hW
theorem dual_kind_ok (n : Nat) (t : T) (hn : isN t = true) (h : Hs) : callF W L (n + 1) 13 [toD t] h = .ok (toD (dl t)) h := by
  rw [callF_s (hW 13 _ (by decide) rfl) rfl]
  cases t <;> simp [isN] at hn <;> simp [q_set, q_put, q_expr, q_ret, q_retN, q_ife, q_cons, q_nil, q_cst, q_bin, q_neg, q_cmp, q_and, q_or, q_not, q_eife, q_tup, q_lst, q_dic, q_ix, q_slc, q_cal, q_blt, q_enil, q_econs, q_met, r_for, r_lc, r_var, r_ix_ob, r_sl_ob, r_put_ob, r_len_ob, r_tup_ob, r_lst_ob, r_addl, r_app, r_it_ob, r_in_ob, r_nin_ob, optI, Rf.start, f_dual_kind, toD, atI, ixN, dl, sizeLine]
mutual
theorem dual_ok : ∀ (t : T) (k : Nat), okT nms 5 t k → ∀ (n : Nat) (h : Hs), ∃ h', callF W L (n + k + 2) 12 [toD t] h = .ok (toD (dl t)) h' ∧ Kx h h'
  | .en, k, _, n, h => by
    refine ⟨h, ?_, Kx.refl⟩
    rw [callF_s (hW 12 _ (by decide) rfl) rfl]
    have e1 := stands_ok hW L (n + k) .en h
    simp only [toD, isN] at e1
    simp [q_set, q_put, q_expr, q_ret, q_retN, q_ife, q_cons, q_nil, q_cst, q_bin, q_neg, q_cmp, q_and, q_or, q_not, q_eife, q_tup, q_lst, q_dic, q_ix, q_slc, q_cal, q_blt, q_enil, q_econs, q_met, r_for, r_lc, r_var, r_ix_ob, r_sl_ob, r_put_ob, r_len_ob, r_tup_ob, r_lst_ob, r_addl, r_app, r_it_ob, r_in_ob, r_nin_ob, optI, Rf.start, f_dual, toD, atI, ixN, dl, e1]
  | .nm s, k, _, n, h => by
    refine ⟨h, ?_, Kx.refl⟩
    rw [callF_s (hW 12 _ (by decide) rfl) rfl]
    have e1 := stands_ok hW L (n + k) (.nm s) h
    have e2 := dual_kind_ok hW L (n + k) (.nm s) rfl h
    simp only [toD, isN, dl] at e1 e2
    simp [q_set, q_put, q_expr, q_ret, q_retN, q_ife, q_cons, q_nil, q_cst, q_bin, q_neg, q_cmp, q_and, q_or, q_not, q_eife, q_tup, q_lst, q_dic, q_ix, q_slc, q_cal, q_blt, q_enil, q_econs, q_met, r_for, r_lc, r_var, r_ix_ob, r_sl_ob, r_put_ob, r_len_ob, r_tup_ob, r_lst_ob, r_addl, r_app, r_it_ob, r_in_ob, r_nin_ob, optI, Rf.start, f_dual, toD, atI, ixN, dl, e1, e2]
  | .du s, k, _, n, h => by
    refine ⟨h, ?_, Kx.refl⟩
    rw [callF_s (hW 12 _ (by decide) rfl) rfl]
    have e1 := stands_ok hW L (n + k) (.du s) h
    have e2 := dual_kind_ok hW L (n + k) (.du s) rfl h
    simp only [toD, isN, dl] at e1 e2
    simp [q_set, q_put, q_expr, q_ret, q_retN, q_ife, q_cons, q_nil, q_cst, q_bin, q_neg, q_cmp, q_and, q_or, q_not, q_eife, q_tup, q_lst, q_dic, q_ix, q_slc, q_cal, q_blt, q_enil, q_econs, q_met, r_for, r_lc, r_var, r_ix_ob, r_sl_ob, r_put_ob, r_len_ob, r_tup_ob, r_lst_ob, r_addl, r_app, r_it_ob, r_in_ob, r_nin_ob, optI, Rf.start, f_dual, toD, atI, ixN, dl, e1, e2]
  | .say r, 0, h, _, _ => by simp [okT] at h
  | .hear r, 0, h, _, _ => by simp [okT] at h
  | .say r, k + 1, ho, n, h => by
    simp only [okT] at ho
    have e1 := stands_ok hW L (n + (k + 1)) (.say r) h
    obtain ⟨σ', h', e2, ⟨s2, s3, s4, rfl⟩, e3, kx⟩ := dual_loop r k ho.2 n (some (toD (.say r))) h.length none none none (h ++ [.lst []]) [] lk_new (by have := ho.1; simp [sizeLine]; omega)
    refine ⟨h', ?_, Kx.app.of_new (Nat.le_refl _) kx⟩
    rw [callF_s (hW 12 _ (by decide) rfl) rfl]
    simp only [toD, isN] at e1 e2
    simp only [List.nil_append] at e3
    rw [show n + k + 2 = n + (k + 1) + 1 by omega] at e2
    simp [q_set, q_put, q_expr, q_ret, q_retN, q_ife, q_cons, q_nil, q_cst, q_bin, q_neg, q_cmp, q_and, q_or, q_not, q_eife, q_tup, q_lst, q_dic, q_ix, q_slc, q_cal, q_blt, q_enil, q_econs, q_met, r_for, r_lc, r_var, r_ix_ob, r_sl_ob, r_put_ob, r_len_ob, r_tup_ob, r_lst_ob, r_addl, r_app, r_it_ob, r_in_ob, r_nin_ob, optI, Rf.start, f_dual, toD, atI, ixN, dl, e1, e2, e3, sizeLine]
  | .hear r, k + 1, ho, n, h => by
    simp only [okT] at ho
    have e1 := stands_ok hW L (n + (k + 1)) (.hear r) h
    obtain ⟨σ', h', e2, ⟨s2, s3, s4, rfl⟩, e3, kx⟩ := dual_loop r k ho.2 n (some (toD (.hear r))) h.length none none none (h ++ [.lst []]) [] lk_new (by have := ho.1; simp [sizeLine]; omega)
    refine ⟨h', ?_, Kx.app.of_new (Nat.le_refl _) kx⟩
    rw [callF_s (hW 12 _ (by decide) rfl) rfl]
    simp only [toD, isN] at e1 e2
    simp only [List.nil_append] at e3
    rw [show n + k + 2 = n + (k + 1) + 1 by omega] at e2
    simp [q_set, q_put, q_expr, q_ret, q_retN, q_ife, q_cons, q_nil, q_cst, q_bin, q_neg, q_cmp, q_and, q_or, q_not, q_eife, q_tup, q_lst, q_dic, q_ix, q_slc, q_cal, q_blt, q_enil, q_econs, q_met, r_for, r_lc, r_var, r_ix_ob, r_sl_ob, r_put_ob, r_len_ob, r_tup_ob, r_lst_ob, r_addl, r_app, r_it_ob, r_in_ob, r_nin_ob, optI, Rf.start, f_dual, toD, atI, ixN, dl, e1, e2, e3, sizeLine]
theorem dual_loop : ∀ (r : TR) (k : Nat), okR nms 5 r k → ∀ (n : Nat) (d0 : Option D) (z : Nat) (s2 s3 s4 : Option D) (h : Hs) (acc : List D), h[z]? = some (.lst acc) → acc.length + lenR r < sizeLine →
    ∃ (σ' : Sg) (h' : Hs), forI .none (fT W L (callF W L (n + k + 2)) (.tp [2, 3, 4]) [.expr (.met (.var 1) "append" [(.tup [(.var 2), (.var 3), (.cal 12 [(.var 4)])])])]) (rowsD r) [d0, some (.ob z), s2, s3, s4] h = .ok (.nx σ') h' ∧
      (∃ s2 s3 s4, σ' = [d0, some (.ob z), s2, s3, s4]) ∧ h'[z]? = some (.lst (acc ++ rowsD (dlR r))) ∧ Kp z h h'
  | .nil, k, _, n, d0, z, s2, s3, s4, h, acc, hz, _ => ⟨_, h, forI_nil trivial, ⟨_, _, _, rfl⟩, by simpa [dlR, rowsD] using hz, Kp.refl⟩
  | .cons l p t r, k, ho, n, d0, z, s2, s3, s4, h, acc, hz, hl => by
    simp only [okR] at ho
    simp only [lenR] at hl
    obtain ⟨h1, e1, k1⟩ := dual_ok t k ho.2.2.1 n h
    have hz1 := k1.2 _ _ hz
    obtain ⟨σ', h', e2, e3, e4, k2⟩ := dual_loop r k ho.2.2.2 n d0 z (some (.str l)) (some p) (some (toD t)) (h1.set z (.lst (acc ++ [.tup [.str l, p, toD (dl t)]]))) (acc ++ [.tup [.str l, p, toD (dl t)]]) (by simp [lk_lt hz1]) (by simp; omega)
    refine ⟨σ', h', ?_, e3, by simpa [dlR, rowsD] using e4, (k1.kp.trans Kp.set).trans k2⟩
    rw [rowsD, forI_nx (h' := h1.set z (.lst (acc ++ [.tup [.str l, p, toD (dl t)]]))) (σ' := [d0, some (.ob z), some (.str l), some p, some (toD t)]) (by trivial) ?_]
    · exact e2
    · have : acc.length < 16777216 := by simp only [sizeLine] at hl; omega
      rw [fT_some (σ1 := [d0, some (.ob z), some (.str l), some p, some (toD t)]) rfl]
      simp [q_set, q_put, q_expr, q_ret, q_retN, q_ife, q_cons, q_nil, q_cst, q_bin, q_neg, q_cmp, q_and, q_or, q_not, q_eife, q_tup, q_lst, q_dic, q_ix, q_slc, q_cal, q_blt, q_enil, q_econs, q_met, r_for, r_lc, r_var, r_ix_ob, r_sl_ob, r_put_ob, r_len_ob, r_tup_ob, r_lst_ob, r_addl, r_app, r_it_ob, r_in_ob, r_nin_ob, optI, Rf.start, hz, r_metapp hz, e1, hz1, this, sizeLine]
end
abbrev elD : E := .tup [.ix (.var 2) (.cst (.int 0)), .ix (.var 2) (.cst (.int 1)), .cal 8 [.ix (.var 2) (.cst (.int 2))]]
mutual
theorem ldual_ok : ∀ (t : T) (k : Nat), okT nms 5 t k → ∀ (n : Nat) (h : Hs), ∃ h', callF W L (n + k + 1) 8 [toD t] h = .ok (toD (dl t)) h' ∧ Kx h h'
  | .en, k, _, n, h => by
    refine ⟨h, ?_, Kx.refl⟩
    rw [callF_s (hW 8 _ (by decide) rfl) rfl]
    simp [q_set, q_put, q_expr, q_ret, q_retN, q_ife, q_cons, q_nil, q_cst, q_bin, q_neg, q_cmp, q_and, q_or, q_not, q_eife, q_tup, q_lst, q_dic, q_ix, q_slc, q_cal, q_blt, q_enil, q_econs, q_met, r_for, r_lc, r_var, r_ix_ob, r_sl_ob, r_put_ob, r_len_ob, r_tup_ob, r_lst_ob, r_addl, r_app, r_it_ob, r_in_ob, r_nin_ob, optI, Rf.start, f__law_dual, toD, atI, ixN, dl, sizeLine]
  | .nm s, k, _, n, h => by
    refine ⟨h, ?_, Kx.refl⟩
    rw [callF_s (hW 8 _ (by decide) rfl) rfl]
    simp [q_set, q_put, q_expr, q_ret, q_retN, q_ife, q_cons, q_nil, q_cst, q_bin, q_neg, q_cmp, q_and, q_or, q_not, q_eife, q_tup, q_lst, q_dic, q_ix, q_slc, q_cal, q_blt, q_enil, q_econs, q_met, r_for, r_lc, r_var, r_ix_ob, r_sl_ob, r_put_ob, r_len_ob, r_tup_ob, r_lst_ob, r_addl, r_app, r_it_ob, r_in_ob, r_nin_ob, optI, Rf.start, f__law_dual, toD, atI, ixN, dl, sizeLine]
  | .du s, k, _, n, h => by
    refine ⟨h, ?_, Kx.refl⟩
    rw [callF_s (hW 8 _ (by decide) rfl) rfl]
    simp [q_set, q_put, q_expr, q_ret, q_retN, q_ife, q_cons, q_nil, q_cst, q_bin, q_neg, q_cmp, q_and, q_or, q_not, q_eife, q_tup, q_lst, q_dic, q_ix, q_slc, q_cal, q_blt, q_enil, q_econs, q_met, r_for, r_lc, r_var, r_ix_ob, r_sl_ob, r_put_ob, r_len_ob, r_tup_ob, r_lst_ob, r_addl, r_app, r_it_ob, r_in_ob, r_nin_ob, optI, Rf.start, f__law_dual, toD, atI, ixN, dl, sizeLine]
  | .say r, 0, h, _, _ => by simp [okT] at h
  | .hear r, 0, h, _, _ => by simp [okT] at h
  | .say r, k + 1, ho, n, h => by
    simp only [okT] at ho
    obtain ⟨h', e2, kx⟩ := ldual_loop r k ho.2 n (some (toD (.say r))) none none h [] (by have := ho.1; simp [sizeLine]; omega)
    refine ⟨h' ++ [.lst (rowsD (dlR r))], ?_, kx.trans Kx.app⟩
    rw [callF_s (hW 8 _ (by decide) rfl) rfl]
    simp only [toD, List.nil_append] at e2
    rw [show n + k + 1 = n + (k + 1) by omega] at e2
    simp [q_set, q_put, q_expr, q_ret, q_retN, q_ife, q_cons, q_nil, q_cst, q_bin, q_neg, q_cmp, q_and, q_or, q_not, q_eife, q_tup, q_lst, q_dic, q_ix, q_slc, q_cal, q_blt, q_enil, q_econs, q_met, r_for, r_lc, r_var, r_ix_ob, r_sl_ob, r_put_ob, r_len_ob, r_tup_ob, r_lst_ob, r_addl, r_app, r_it_ob, r_in_ob, r_nin_ob, optI, Rf.start, f__law_dual, toD, atI, ixN, dl, e2, lcEnd, sizeLine]
  | .hear r, k + 1, ho, n, h => by
    simp only [okT] at ho
    obtain ⟨h', e2, kx⟩ := ldual_loop r k ho.2 n (some (toD (.hear r))) none none h [] (by have := ho.1; simp [sizeLine]; omega)
    refine ⟨h' ++ [.lst (rowsD (dlR r))], ?_, kx.trans Kx.app⟩
    rw [callF_s (hW 8 _ (by decide) rfl) rfl]
    simp only [toD, List.nil_append] at e2
    rw [show n + k + 1 = n + (k + 1) by omega] at e2
    simp [q_set, q_put, q_expr, q_ret, q_retN, q_ife, q_cons, q_nil, q_cst, q_bin, q_neg, q_cmp, q_and, q_or, q_not, q_eife, q_tup, q_lst, q_dic, q_ix, q_slc, q_cal, q_blt, q_enil, q_econs, q_met, r_for, r_lc, r_var, r_ix_ob, r_sl_ob, r_put_ob, r_len_ob, r_tup_ob, r_lst_ob, r_addl, r_app, r_it_ob, r_in_ob, r_nin_ob, optI, Rf.start, f__law_dual, toD, atI, ixN, dl, e2, lcEnd, sizeLine]
theorem ldual_loop : ∀ (r : TR) (k : Nat), okR nms 5 r k → ∀ (n : Nat) (d0 d1 d2 : Option D) (h : Hs) (acc : List D), acc.length + lenR r < sizeLine →
    ∃ h' : Hs, lcI .none (lT W (callF W L (n + k + 1)) [2] (.nm 2) [] elD [d0, d1, d2]) (rowsD r) acc h = .ok (acc ++ rowsD (dlR r)) h' ∧ Kx h h'
  | .nil, k, _, n, d0, d1, d2, h, acc, _ => ⟨h, by rw [rowsD, lcI_nil (by trivial)]; simp [dlR, rowsD, endG], Kx.refl⟩
  | .cons l p t r, k, ho, n, d0, d1, d2, h, acc, hl => by
    simp only [okR] at ho
    simp only [lenR] at hl
    obtain ⟨h1, e1, k1⟩ := ldual_ok t k ho.2.2.1 n h
    obtain ⟨h', e2, k2⟩ := ldual_loop r k ho.2.2.2 n d0 d1 d2 h1 (acc ++ [.tup [.str l, p, toD (dl t)]]) (by simp; omega)
    refine ⟨h', ?_, k1.trans k2⟩
    rw [rowsD, lcI_some (h' := h1) (x := .tup [.str l, p, toD (dl t)]) (by trivial) ?_ (by omega), e2]
    · simp [dlR, rowsD]
    · rw [lT_nil (σ1 := [d0, d1, some (.tup [.str l, p, toD t])]) (by rfl)]
      simp [q_set, q_put, q_expr, q_ret, q_retN, q_ife, q_cons, q_nil, q_cst, q_bin, q_neg, q_cmp, q_and, q_or, q_not, q_eife, q_tup, q_lst, q_dic, q_ix, q_slc, q_cal, q_blt, q_enil, q_econs, q_met, r_for, r_lc, r_var, r_ix_ob, r_sl_ob, r_put_ob, r_len_ob, r_tup_ob, r_lst_ob, r_addl, r_app, r_it_ob, r_in_ob, r_nin_ob, optI, Rf.start, atI, ixN, e1, sizeLine]
end
theorem dualN (N : Nat) (t : T) (k : Nat) (ho : okT nms 5 t k) (hN : k + 2 ≤ N) (h : Hs) : ∃ h', callF W L N 12 [toD t] h = .ok (toD (dl t)) h' ∧ Kx h h' := by
  obtain ⟨n, rfl⟩ : ∃ n, N = n + k + 2 := ⟨N - (k + 2), by omega⟩
  exact dual_ok hW L t k ho n h
theorem ldualN (N : Nat) (t : T) (k : Nat) (ho : okT nms 5 t k) (hN : k + 1 ≤ N) (h : Hs) : ∃ h', callF W L N 8 [toD t] h = .ok (toD (dl t)) h' ∧ Kx h h' := by
  obtain ⟨n, rfl⟩ : ∃ n, N = n + k + 1 := ⟨N - (k + 1), by omega⟩
  exact ldual_ok hW L t k ho n h
end
end K13
end

section
namespace K13
open PySem PySem.Spec PyProof.Rows L2 Rf
/-- where names lead -/
inductive Rs (nms : List (List Char)) (kvs : List (D × D)) : T → T → Nat → Prop where
  | stop {t : T} (h : isN t = false) (ho : okT nms 5 t 5) : Rs nms kvs t t 0
  | nm {s : List Char} {t r : T} {m : Nat} (e : kvGet kvs (.str s) = some (toD t)) (h : Rs nms kvs t r m) : Rs nms kvs (.nm s) r (m + 1)
  | du {s : List Char} {t r : T} {m : Nat} (e : kvGet kvs (.str s) = some (toD t)) (h : Rs nms kvs t r m) : Rs nms kvs (.du s) (dl r) (m + 1)
theorem okT_mono {nms : List (List Char)} {bb cc : Nat} (hb : bb ≤ cc) : ∀ {k : Nat}, (∀ (t : T) (j : Nat), k ≤ j → okT nms bb t k → okT nms cc t j) ∧ (∀ (r : TR) (j : Nat), k ≤ j → okR nms bb r k → okR nms cc r j) := by
  intro k
  induction k with
  | zero =>
    have a : ∀ (t : T) (j : Nat), okT nms bb t 0 → okT nms cc t j := by
      intro t j h
      cases t <;> simp only [okT] at h ⊢ <;> exact h
    have b : ∀ (r : TR) (j : Nat), okR nms bb r 0 → okR nms cc r j := by
      intro r j
      induction r using TR.rec (motive_1 := fun _ => True) with
      | nil => intro _; simp only [okR]
      | cons l p t r _ ih =>
        intro h
        simp only [okR] at h ⊢
        exact ⟨h.1, h.2.1, a t j h.2.2.1, ih h.2.2.2⟩
      | _ => trivial
    exact ⟨fun t j _ => a t j, fun r j _ => b r j⟩
  | succ k ihk =>
    have a : ∀ (t : T) (j : Nat), k + 1 ≤ j → okT nms bb t (k + 1) → okT nms cc t j := by
      intro t j hj h
      obtain ⟨j, rfl⟩ : ∃ i, j = i + 1 := ⟨j - 1, by omega⟩
      cases t <;> simp only [okT] at h ⊢
      · exact h
      · exact h
      · exact ⟨Nat.le_trans h.1 hb, ihk.2 _ _ (by omega) h.2⟩
      · exact ⟨Nat.le_trans h.1 hb, ihk.2 _ _ (by omega) h.2⟩
    have b : ∀ (r : TR) (j : Nat), k + 1 ≤ j → okR nms bb r (k + 1) → okR nms cc r j := by
      intro r j hj
      induction r using TR.rec (motive_1 := fun _ => True) with
      | nil => intro _; simp only [okR]
      | cons l p t r _ ih =>
        intro h
        simp only [okR] at h ⊢
        exact ⟨h.1, h.2.1, a t j hj h.2.2.1, ih h.2.2.2⟩
      | _ => trivial
    exact ⟨a, b⟩
variable {nms : List (List Char)}
theorem Rs.ok {kvs : List (D × D)} {t r : T} {m : Nat} (h : Rs nms kvs t r m) : okT nms 5 r 5 := by
  induction h with
  | stop _ ho => exact ho
  | nm _ _ ih => exact ih
  | du _ _ ih => exact okT_dl ih
theorem resolves {kvs : List (D × D)} (h : TI nms nms.length kvs) : ∀ (j i : Nat) (s : List Char), i + j + 1 = nms.length → nms[i]? = some s → ∃ t r m, kvGet kvs (.str s) = some (toD t) ∧ Rs nms kvs t r m ∧ m ≤ j := by
  intro j
  induction j with
  | zero =>
    intro i s hi hs
    obtain ⟨t, e, ho, q⟩ := h.2 i s (by omega) hs
    rcases q with q | ⟨s', hs', _⟩
    · exact ⟨t, t, 0, e, .stop q ((okT_mono (by omega)).1 _ _ (by omega) ho), Nat.le_refl _⟩
    · have := (List.getElem?_eq_some_iff.mp hs').1; omega
  | succ j ih =>
    intro i s hi hs
    obtain ⟨t, e, ho, q⟩ := h.2 i s (by omega) hs
    rcases q with q | ⟨s', hs', q⟩
    · exact ⟨t, t, 0, e, .stop q ((okT_mono (by omega)).1 _ _ (by omega) ho), Nat.zero_le _⟩
    · obtain ⟨t', r, m, e', hr, hm⟩ := ih (i + 1) s' (by omega) hs'
      rcases q with rfl | rfl
      · exact ⟨_, r, m + 1, e, .nm e' hr, by omega⟩
      · exact ⟨_, dl r, m + 1, e, .du e' hr, by omega⟩
theorem r_whl {W : Wd} {L : Nat} {cf : CF} {σ : Sg} {h : Hs} {c : E} {b : List S} : evalS W L cf none (.whl c b) σ h = whileI (fun σ h => (evalE W cf none c σ h).bind fun x h => truthR x h) (evalB W L cf none b) L σ h := by simp only [evalS] <;> rfl
variable {W : Wd} (hW : Has W) (L : Nat)
include hW
noncomputable abbrev cH0 (W : Wd) (L N : Nat) : Sg → Hs → R Bool := fun σ h => (evalE W (callF W L N) none (.cal 11 [(.var 1)]) σ h).bind fun x h => truthR x h
noncomputable abbrev bH0 (W : Wd) (L N : Nat) : Sg → Hs → RS := evalB W L (callF W L N) none [.ife (.cmp .eq (.ix (.var 1) (.cst (.int 0))) (.cst (.str ['d', 'u', 'a', 'l'])))
      [.set 2 (.not (.var 2))]
      [],
    .set 1 (.ix (.var 0) (.ix (.var 1) (.cst (.int 1))))]
theorem head_loop (N : Nat) (hN : 1 ≤ N) (y : Nat) {kvs : List (D × D)} (hT : TB nms kvs) {t r : T} {m : Nat} (hr : Rs nms kvs t r m) : ∀ (b : Bool) (h : Hs) (lk : Bool) (Lf : Nat), m + 1 ≤ Lf → h[y]? = some (.dic lk false kvs) →
    ∃ (b' : Bool) (tf : T), whileI (cH0 W L N) (bH0 W L N) Lf [some (.ob y), some (toD t), some (.bl b)] h = .ok (.nx [some (.ob y), some (toD tf), some (.bl b')]) h ∧ isN tf = false ∧ okT nms 5 tf 5 ∧ (if b' then dl tf else tf) = (if b then dl r else r) := by
  obtain ⟨n, rfl⟩ : ∃ n, N = n + 1 := ⟨N - 1, by omega⟩
  induction hr with
  | @stop t hs ho =>
    intro b h lk Lf hL hy
    obtain ⟨l, rfl⟩ : ∃ l, Lf = l + 1 := ⟨Lf - 1, by omega⟩
    refine ⟨b, t, ?_, hs, ho, rfl⟩
    have e1 := stands_ok hW L n t h
    rw [hs] at e1
    have c1 : cH0 W L (n + 1) [some (.ob y), some (toD t), some (.bl b)] h = .ok false h := by
      show (evalE W (callF W L (n + 1)) none (.cal 11 [(.var 1)]) _ h).bind (fun x h => truthR x h) = _
      simp [q_set, q_put, q_expr, q_ret, q_retN, q_ife, q_cons, q_nil, q_cst, q_bin, q_neg, q_cmp, q_and, q_or, q_not, q_eife, q_tup, q_lst, q_dic, q_ix, q_slc, q_cal, q_blt, q_enil, q_econs, q_met, r_for, r_lc, r_var, r_ix_ob, r_sl_ob, r_put_ob, r_len_ob, r_tup_ob, r_lst_ob, r_addl, r_app, r_it_ob, r_in_ob, r_nin_ob, optI, Rf.start, e1]
    unfold whileI
    rw [c1, R.stm_ok]
    rfl
  | @nm s t r m e hr ih =>
    intro b h lk Lf hL hy
    obtain ⟨l, rfl⟩ : ∃ l, Lf = l + 1 := ⟨Lf - 1, by omega⟩
    obtain ⟨b', tf, e9, q1, q2, q3⟩ := ih b h lk l (by omega) hy
    refine ⟨b', tf, ?_, q1, q2, q3⟩
    have e1 := stands_ok hW L n (.nm s) h
    simp only [toD, isN] at e1
    have c1 : cH0 W L (n + 1) [some (.ob y), some (toD (.nm s)), some (.bl b)] h = .ok true h := by
      show (evalE W (callF W L (n + 1)) none (.cal 11 [(.var 1)]) _ h).bind (fun x h => truthR x h) = _
      simp [q_set, q_put, q_expr, q_ret, q_retN, q_ife, q_cons, q_nil, q_cst, q_bin, q_neg, q_cmp, q_and, q_or, q_not, q_eife, q_tup, q_lst, q_dic, q_ix, q_slc, q_cal, q_blt, q_enil, q_econs, q_met, r_for, r_lc, r_var, r_ix_ob, r_sl_ob, r_put_ob, r_len_ob, r_tup_ob, r_lst_ob, r_addl, r_app, r_it_ob, r_in_ob, r_nin_ob, optI, Rf.start, e1, toD]
    have b1 : bH0 W L (n + 1) [some (.ob y), some (toD (.nm s)), some (.bl b)] h = .ok (.nx [some (.ob y), some (toD t), some (.bl b)]) h := by
      simp [q_set, q_put, q_expr, q_ret, q_retN, q_ife, q_cons, q_nil, q_cst, q_bin, q_neg, q_cmp, q_and, q_or, q_not, q_eife, q_tup, q_lst, q_dic, q_ix, q_slc, q_cal, q_blt, q_enil, q_econs, q_met, r_for, r_lc, r_var, r_ix_ob, r_sl_ob, r_put_ob, r_len_ob, r_tup_ob, r_lst_ob, r_addl, r_app, r_it_ob, r_in_ob, r_nin_ob, optI, Rf.start, toD, atI_0, atI_1, hy, hT.okK s, e]
    unfold whileI
    rw [c1, R.stm_ok, if_pos rfl, b1]
    exact e9
  | @du s t r m e hr ih =>
    intro b h lk Lf hL hy
    obtain ⟨l, rfl⟩ : ∃ l, Lf = l + 1 := ⟨Lf - 1, by omega⟩
    obtain ⟨b', tf, e9, q1, q2, q3⟩ := ih (!b) h lk l (by omega) hy
    refine ⟨b', tf, ?_, q1, q2, ?_⟩
    · have e1 := stands_ok hW L n (.du s) h
      simp only [toD, isN] at e1
      have c1 : cH0 W L (n + 1) [some (.ob y), some (toD (.du s)), some (.bl b)] h = .ok true h := by
        show (evalE W (callF W L (n + 1)) none (.cal 11 [(.var 1)]) _ h).bind (fun x h => truthR x h) = _
        simp [q_set, q_put, q_expr, q_ret, q_retN, q_ife, q_cons, q_nil, q_cst, q_bin, q_neg, q_cmp, q_and, q_or, q_not, q_eife, q_tup, q_lst, q_dic, q_ix, q_slc, q_cal, q_blt, q_enil, q_econs, q_met, r_for, r_lc, r_var, r_ix_ob, r_sl_ob, r_put_ob, r_len_ob, r_tup_ob, r_lst_ob, r_addl, r_app, r_it_ob, r_in_ob, r_nin_ob, optI, Rf.start, e1, toD]
      have b1 : bH0 W L (n + 1) [some (.ob y), some (toD (.du s)), some (.bl b)] h = .ok (.nx [some (.ob y), some (toD t), some (.bl (!b))]) h := by
        simp [q_set, q_put, q_expr, q_ret, q_retN, q_ife, q_cons, q_nil, q_cst, q_bin, q_neg, q_cmp, q_and, q_or, q_not, q_eife, q_tup, q_lst, q_dic, q_ix, q_slc, q_cal, q_blt, q_enil, q_econs, q_met, r_for, r_lc, r_var, r_ix_ob, r_sl_ob, r_put_ob, r_len_ob, r_tup_ob, r_lst_ob, r_addl, r_app, r_it_ob, r_in_ob, r_nin_ob, optI, Rf.start, toD, atI_0, atI_1, hy, hT.okK s, e]
      unfold whileI
      rw [c1, R.stm_ok, if_pos rfl, b1]
      exact e9
    · rw [q3]
      cases b <;> simp [dl_dl]
theorem head_ok (hf : W.fns[15]? = some f_head) (N : Nat) (hN : 10 ≤ N) (hL : 10 ≤ L) (y : Nat) {kvs : List (D × D)} (hT : TB nms kvs) {t r : T} {m : Nat} (hr : Rs nms kvs t r m) (hm : m ≤ 5) (h : Hs) (lk : Bool) (hy : h[y]? = some (.dic lk false kvs)) :
    ∃ h', callF W L N 15 [.ob y, toD t] h = .ok (toD r) h' ∧ Kx h h' := by
  obtain ⟨M, rfl⟩ : ∃ M, N = M + 1 := ⟨N - 1, by omega⟩
  rw [callF_s hf rfl]
  obtain ⟨b', tf, e9, q1, q2, q3⟩ := head_loop hW L M (by omega) y hT hr false h lk L (by omega) hy
  simp only [Bool.false_eq_true, if_false] at q3
  have s2 : ∀ X, evalS W L (callF W L M) none (.whl (.cal 11 [(.var 1)]) X) [some (.ob y), some (toD t), some (.bl false)] h = whileI (cH0 W L M) (evalB W L (callF W L M) none X) L [some (.ob y), some (toD t), some (.bl false)] h := fun X => r_whl
  have es : Rf.start f_head.ns [D.ob y, toD t] = [some (.ob y), some (toD t), none] := rfl
  rw [es]
  unfold f_head
  rw [q_cons]
  have s1 : evalS W L (callF W L M) none (.set 2 (.cst (.bl false))) [some (.ob y), some (toD t), none] h = .ok (.nx [some (.ob y), some (toD t), some (.bl false)]) h := by simp [q_set, q_put, q_expr, q_ret, q_retN, q_ife, q_cons, q_nil, q_cst, q_bin, q_neg, q_cmp, q_and, q_or, q_not, q_eife, q_tup, q_lst, q_dic, q_ix, q_slc, q_cal, q_blt, q_enil, q_econs, q_met, r_for, r_lc, r_var, r_ix_ob, r_sl_ob, r_put_ob, r_len_ob, r_tup_ob, r_lst_ob, r_addl, r_app, r_it_ob, r_in_ob, r_nin_ob, optI, Rf.start]
  rw [s1, RS.then_nx, q_cons, s2, e9, RS.then_nx]
  cases b' with
  | false =>
    simp only [Bool.false_eq_true, if_false] at q3
    subst q3
    exact ⟨h, by simp [q_set, q_put, q_expr, q_ret, q_retN, q_ife, q_cons, q_nil, q_cst, q_bin, q_neg, q_cmp, q_and, q_or, q_not, q_eife, q_tup, q_lst, q_dic, q_ix, q_slc, q_cal, q_blt, q_enil, q_econs, q_met, r_for, r_lc, r_var, r_ix_ob, r_sl_ob, r_put_ob, r_len_ob, r_tup_ob, r_lst_ob, r_addl, r_app, r_it_ob, r_in_ob, r_nin_ob, optI, Rf.start], Kx.refl⟩
  | true =>
    simp only [if_true] at q3
    obtain ⟨h1, e1, k1⟩ := dualN hW L M tf 5 q2 (by omega) h
    rw [q3] at e1
    exact ⟨h1, by simp [q_set, q_put, q_expr, q_ret, q_retN, q_ife, q_cons, q_nil, q_cst, q_bin, q_neg, q_cmp, q_and, q_or, q_not, q_eife, q_tup, q_lst, q_dic, q_ix, q_slc, q_cal, q_blt, q_enil, q_econs, q_met, r_for, r_lc, r_var, r_ix_ob, r_sl_ob, r_put_ob, r_len_ob, r_tup_ob, r_lst_ob, r_addl, r_app, r_it_ob, r_in_ob, r_nin_ob, optI, Rf.start, e1], k1⟩
theorem lhead_ok {kvs : List (D × D)} (hT : TB nms kvs) (y : Nat) {t r : T} {m : Nat} (hr : Rs nms kvs t r m) : ∀ (N : Nat) (h : Hs) (lk : Bool), m + 8 ≤ N → h[y]? = some (.dic lk false kvs) →
    ∃ h', callF W L N 9 [.ob y, toD t] h = .ok (toD r) h' ∧ Kx h h' := by
  induction hr with
  | @stop t hs ho =>
    intro N h lk hN hy
    obtain ⟨M, rfl⟩ : ∃ M, N = M + 1 := ⟨N - 1, by omega⟩
    rw [callF_s (hW 9 _ (by decide) rfl) rfl]
    refine ⟨h, ?_, Kx.refl⟩
    cases t <;> simp [isN] at hs <;> simp [q_set, q_put, q_expr, q_ret, q_retN, q_ife, q_cons, q_nil, q_cst, q_bin, q_neg, q_cmp, q_and, q_or, q_not, q_eife, q_tup, q_lst, q_dic, q_ix, q_slc, q_cal, q_blt, q_enil, q_econs, q_met, r_for, r_lc, r_var, r_ix_ob, r_sl_ob, r_put_ob, r_len_ob, r_tup_ob, r_lst_ob, r_addl, r_app, r_it_ob, r_in_ob, r_nin_ob, optI, Rf.start, f__law_head, toD, atI_0]
  | @nm s t r m e hr ih =>
    intro N h lk hN hy
    obtain ⟨M, rfl⟩ : ∃ M, N = M + 1 := ⟨N - 1, by omega⟩
    obtain ⟨h1, e1, k1⟩ := ih M h lk (by omega) hy
    rw [callF_s (hW 9 _ (by decide) rfl) rfl]
    refine ⟨h1, ?_, k1⟩
    simp [q_set, q_put, q_expr, q_ret, q_retN, q_ife, q_cons, q_nil, q_cst, q_bin, q_neg, q_cmp, q_and, q_or, q_not, q_eife, q_tup, q_lst, q_dic, q_ix, q_slc, q_cal, q_blt, q_enil, q_econs, q_met, r_for, r_lc, r_var, r_ix_ob, r_sl_ob, r_put_ob, r_len_ob, r_tup_ob, r_lst_ob, r_addl, r_app, r_it_ob, r_in_ob, r_nin_ob, optI, Rf.start, f__law_head, toD, atI_0, atI_1, hy, hT.okK s, e, e1]
  | @du s t r m e hr ih =>
    intro N h lk hN hy
    obtain ⟨M, rfl⟩ : ∃ M, N = M + 1 := ⟨N - 1, by omega⟩
    obtain ⟨h1, e1, k1⟩ := ih M h lk (by omega) hy
    obtain ⟨h2, e2, k2⟩ := ldualN hW L M r 5 hr.ok (by omega) h1
    rw [callF_s (hW 9 _ (by decide) rfl) rfl]
    refine ⟨h2, ?_, k1.trans k2⟩
    simp [q_set, q_put, q_expr, q_ret, q_retN, q_ife, q_cons, q_nil, q_cst, q_bin, q_neg, q_cmp, q_and, q_or, q_not, q_eife, q_tup, q_lst, q_dic, q_ix, q_slc, q_cal, q_blt, q_enil, q_econs, q_met, r_for, r_lc, r_var, r_ix_ob, r_sl_ob, r_put_ob, r_len_ob, r_tup_ob, r_lst_ob, r_addl, r_app, r_it_ob, r_in_ob, r_nin_ob, optI, Rf.start, f__law_head, toD, atI_0, atI_1, hy, hT.okK s, e, e1, e2]
end K13
end

section
namespace K13
open PySem PySem.Spec PyProof.Rows L2 Rf
/-! ### texts of talks -/
theorem joinC_len : ∀ ts : List (List Char), (joinC ts).length ≤ (ts.map fun t => t.length + 2).sum
  | [] => by simp [joinC]
  | [x] => by simp [joinC]
  | x :: y :: r => by
    have := joinC_len (y :: r)
    simp only [joinC, List.length_append, List.length_cons, List.map_cons, List.sum_cons] at this ⊢
    omega
def rsz (ds : List D) : Nat := (ds.map fun d => (rp d).length + 2).sum
theorem rps_map : ∀ ds : List D, rps ds = ds.map rp
  | [] => rfl
  | d :: ds => by simp only [rps, List.map_cons, rps_map ds]
theorem rp_tup_len (ds : List D) : (rp (.tup ds)).length ≤ rsz ds + 3 := by
  have h := joinC_len (rps ds)
  have e : (rps ds).map (fun t => t.length + 2) = ds.map fun d => (rp d).length + 2 := by rw [rps_map, List.map_map]; rfl
  rw [e] at h
  unfold rsz
  match ds with
  | [] => simp only [rp, List.length_cons, List.length_append, List.length_nil] at h ⊢; omega
  | [x] => simp only [rp, List.length_cons, List.length_append, List.length_nil] at h ⊢; omega
  | x :: y :: r => simp only [rp, List.length_cons, List.length_append, List.length_nil] at h ⊢; omega
theorem rsz_cons (d : D) (ds : List D) : rsz (d :: ds) = (rp d).length + 2 + rsz ds := by simp [rsz]
theorem rsz_nil : rsz [] = 0 := rfl
theorem rp_str_len (s : List Char) : (rp (.str s)).length = s.length + 2 := by simp [rp]
def bnd : Nat → Nat
  | 0 => 60
  | k + 1 => 9 * (bnd k + 70) + 60
section
variable {nms : List (List Char)} (hn : ∀ s ∈ nms, okL s)
include hn
theorem okP_rp {p : D} (h : okP nms p) : rpOk p = true ∧ (rp p).length ≤ 40 := by
  have two : ∀ (c s : List Char), c.length ≤ 4 → s.length ≤ 8 → (rp (.tup [.str c, .str s])).length ≤ 40 := by
    intro c s h1 h2
    have := rp_tup_len [.str c, .str s]
    rw [rsz_cons, rsz_cons, rsz_nil, rp_str_len, rp_str_len] at this
    omega
  rcases h with rfl | rfl | rfl | ⟨s, hs, rfl | rfl⟩
  · exact ⟨rfl, by decide⟩
  · exact ⟨rfl, by decide⟩
  · exact ⟨rfl, by decide⟩
  · refine ⟨?_, two _ _ (by decide) (hn s hs).2⟩
    simp only [rpOk, rpsOk, (hn s hs).1, Bool.and_true]; rfl
  · refine ⟨?_, two _ _ (by decide) (hn s hs).2⟩
    simp only [rpOk, rpsOk, (hn s hs).1, Bool.and_true]; rfl
mutual
theorem rp_T : ∀ {t : T} {k : Nat}, okT nms 5 t k → rpOk (toD t) = true ∧ (rp (toD t)).length ≤ bnd k
  | .en, k, _ => by
    refine ⟨rfl, ?_⟩
    have : (rp (toD .en)).length = 8 := by decide
    rw [this]
    cases k <;> simp only [bnd] <;> omega
  | .nm s, k, h => by
    simp only [okT] at h
    have := okP_rp hn (.inr (.inr (.inr ⟨s, h, .inl rfl⟩)))
    refine ⟨this.1, Nat.le_trans this.2 ?_⟩
    cases k <;> simp only [bnd] <;> omega
  | .du s, k, h => by
    simp only [okT] at h
    have := okP_rp hn (.inr (.inr (.inr ⟨s, h, .inr rfl⟩)))
    refine ⟨this.1, Nat.le_trans this.2 ?_⟩
    cases k <;> simp only [bnd] <;> omega
  | .say r, 0, h => by simp [okT] at h
  | .hear r, 0, h => by simp [okT] at h
  | .say r, k + 1, h => by
    simp only [okT] at h
    obtain ⟨h1, h2⟩ := rp_R h.2
    refine ⟨by simp only [toD, rpOk, rpsOk, h1, Bool.and_true]; rfl, ?_⟩
    have a := rp_tup_len [.str cS, .tup (rowsD r)]
    have b := rp_tup_len (rowsD r)
    rw [rsz_cons, rsz_cons, rsz_nil, rp_str_len] at a
    have c : lenR r * (bnd k + 70) ≤ 9 * (bnd k + 70) := Nat.mul_le_mul_right _ (Nat.le_trans h.1 (by omega))
    have e : cS.length = 3 := rfl
    simp only [toD, bnd]; omega
  | .hear r, k + 1, h => by
    simp only [okT] at h
    obtain ⟨h1, h2⟩ := rp_R h.2
    refine ⟨by simp only [toD, rpOk, rpsOk, h1, Bool.and_true]; rfl, ?_⟩
    have a := rp_tup_len [.str cH, .tup (rowsD r)]
    have b := rp_tup_len (rowsD r)
    rw [rsz_cons, rsz_cons, rsz_nil, rp_str_len] at a
    have c : lenR r * (bnd k + 70) ≤ 9 * (bnd k + 70) := Nat.mul_le_mul_right _ (Nat.le_trans h.1 (by omega))
    have e : cH.length = 4 := rfl
    simp only [toD, bnd]; omega
theorem rp_R : ∀ {r : TR} {k : Nat}, okR nms 5 r k → rpsOk (rowsD r) = true ∧ rsz (rowsD r) ≤ lenR r * (bnd k + 70)
  | .nil, _, _ => ⟨rfl, by simp [rowsD, rsz_nil]⟩
  | .cons l p t r, k, h => by
    simp only [okR] at h
    obtain ⟨a1, a2⟩ := okP_rp hn h.2.1
    obtain ⟨b1, b2⟩ := rp_T h.2.2.1
    obtain ⟨c1, c2⟩ := rp_R h.2.2.2
    refine ⟨by simp only [rowsD, rpsOk, rpOk, h.1.1.1, a1, b1, c1, Bool.and_self], ?_⟩
    have z := rp_tup_len [.str l, p, toD t]
    rw [rsz_cons, rsz_cons, rsz_cons, rsz_nil, rp_str_len] at z
    have hl := h.1.1.2
    simp only [rowsD, rsz_cons, lenR, Nat.add_mul, Nat.one_mul]
    omega
end
theorem rp_5 {t : T} (h : okT nms 5 t 5) : rpOk (toD t) = true ∧ dep (toD t) ≤ 64 ∧ (rp (toD t)).length ≤ sizeLine := by
  obtain ⟨a, b⟩ := rp_T hn h
  have c := depT h
  refine ⟨a, by omega, ?_⟩
  have : bnd 5 ≤ sizeLine := by decide
  omega
end
/-! ### reading a text -/
mutual
def tx : D → Bool
  | .non => true
  | .str s => s.all plC
  | .tup xs => txs xs
  | _ => false
def txs : List D → Bool
  | [] => true
  | x :: xs => tx x && txs xs
end
theorem noq {s : List Char} (h : s.all plC = true) : '\'' ∉ s := by
  intro hm
  have := List.all_eq_true.mp h _ hm
  revert this; decide
theorem quote_inj : ∀ {s s' : List Char} {a a' : List Char}, '\'' ∉ s → '\'' ∉ s' → s ++ '\'' :: a = s' ++ '\'' :: a' → s = s' ∧ a = a'
  | [], [], _, _, _, _, h => by simpa using h
  | [], c :: s', _, _, _, h2, h => by
    simp only [List.nil_append, List.cons_append, List.cons.injEq] at h
    exact absurd (h.1 ▸ List.mem_cons_self ..) h2
  | c :: s, [], _, _, h1, _, h => by
    simp only [List.nil_append, List.cons_append, List.cons.injEq] at h
    exact absurd (h.1 ▸ List.mem_cons_self ..) h1
  | c :: s, c' :: s', a, a', h1, h2, h => by
    simp only [List.cons_append, List.cons.injEq] at h
    obtain ⟨e1, e2⟩ := quote_inj (s := s) (s' := s') (fun q => h1 (List.mem_cons_of_mem _ q)) (fun q => h2 (List.mem_cons_of_mem _ q)) h.2
    exact ⟨by rw [h.1, e1], e2⟩
/-- behind the first of several items -/
def tailE : List D → List Char
  | [] => [')']
  | y :: r => ',' :: ' ' :: rp y ++ tailE r
theorem rp_two (x y : D) (r : List D) (a : List Char) : rp (.tup (x :: y :: r)) ++ a = '(' :: (rp x ++ ',' :: ' ' :: (rp y ++ (tailE r ++ a))) := by
  have : ∀ (y : D) (r : List D), joinC (rps (y :: r)) ++ [')'] = rp y ++ tailE r := by
    intro y r
    induction r generalizing y with
    | nil => simp [rps, joinC, tailE]
    | cons z r ih =>
      have := ih z
      simp only [rps, joinC, tailE, List.append_assoc, List.cons_append] at this ⊢
      rw [this]
  have h := this y r
  simp only [rp, rps, joinC, List.append_assoc, List.cons_append] at h ⊢
  rw [← List.append_assoc (rp y), ← h]
  simp [List.append_assoc, rps]
theorem rp_one (x : D) (a : List Char) : rp (.tup [x]) ++ a = '(' :: (rp x ++ ',' :: ')' :: a) := by simp [rp, rps, joinC]
theorem rp_zero (a : List Char) : rp (.tup []) ++ a = '(' :: ')' :: a := by simp [rp, rps, joinC]
theorem rp_head : ∀ {d : D}, tx d = true → ∀ a : List Char, ∃ c r, rp d ++ a = c :: r ∧ c ≠ ')' ∧ c ≠ ','
  | .non, _, a => ⟨'N', _, rfl, by decide, by decide⟩
  | .str s, _, a => ⟨'\'', _, rfl, by decide, by decide⟩
  | .tup xs, _, a => by
    match xs with
    | [] => exact ⟨'(', _, rp_zero a, by decide, by decide⟩
    | [x] => exact ⟨'(', _, rp_one x a, by decide, by decide⟩
    | x :: y :: r => exact ⟨'(', _, rp_two x y r a, by decide, by decide⟩
  | .bl _, h, _ => by simp [tx] at h
  | .int _, h, _ => by simp [tx] at h
  | .ob _, h, _ => by simp [tx] at h
  | .fn _, h, _ => by simp [tx] at h
  | .con _, h, _ => by simp [tx] at h
mutual
theorem rp_inj : ∀ (d d' : D) (a a' : List Char), tx d = true → tx d' = true → rp d ++ a = rp d' ++ a' → d = d' ∧ a = a'
  | .non, .non, a, a', _, _, h => by simpa [rp] using h
  | .str s, .str s', a, a', h1, h2, h => by
    simp only [tx] at h1 h2
    simp only [rp, List.cons_append, List.append_assoc, List.cons.injEq, true_and] at h
    obtain ⟨e1, e2⟩ := quote_inj (noq h1) (noq h2) h
    exact ⟨by rw [e1], e2⟩
  | .tup [], .tup [], a, a', _, _, h => by
    rw [rp_zero, rp_zero] at h
    simpa using h
  | .tup [], .tup [x], a, a', _, h2, h => by
    simp only [tx, txs, Bool.and_eq_true] at h2
    rw [rp_zero, rp_one] at h
    obtain ⟨c, r, e, n, _⟩ := rp_head h2.1 (',' :: ')' :: a')
    rw [e] at h
    simp only [List.cons.injEq, true_and] at h
    exact absurd h.1.symm n
  | .tup [], .tup (x :: y :: r), a, a', _, h2, h => by
    simp only [tx, txs, Bool.and_eq_true] at h2
    rw [rp_zero, rp_two] at h
    obtain ⟨c, r', e, n, _⟩ := rp_head h2.1 (',' :: ' ' :: (rp y ++ (tailE r ++ a')))
    rw [e] at h
    simp only [List.cons.injEq, true_and] at h
    exact absurd h.1.symm n
  | .tup [x], .tup [], a, a', h1, _, h => by
    simp only [tx, txs, Bool.and_eq_true] at h1
    rw [rp_zero, rp_one] at h
    obtain ⟨c, r, e, n, _⟩ := rp_head h1.1 (',' :: ')' :: a)
    rw [e] at h
    simp only [List.cons.injEq, true_and] at h
    exact absurd h.1 n
  | .tup (x :: y :: r), .tup [], a, a', h1, _, h => by
    simp only [tx, txs, Bool.and_eq_true] at h1
    rw [rp_zero, rp_two] at h
    obtain ⟨c, r', e, n, _⟩ := rp_head h1.1 (',' :: ' ' :: (rp y ++ (tailE r ++ a)))
    rw [e] at h
    simp only [List.cons.injEq, true_and] at h
    exact absurd h.1 n
  | .tup [x], .tup [x'], a, a', h1, h2, h => by
    simp only [tx, txs, Bool.and_eq_true] at h1 h2
    rw [rp_one, rp_one] at h
    simp only [List.cons.injEq, true_and] at h
    obtain ⟨e1, e2⟩ := rp_inj x x' _ _ h1.1 h2.1 h
    simp only [List.cons.injEq, true_and] at e2
    exact ⟨by rw [e1], e2⟩
  | .tup [x], .tup (x' :: y' :: r'), a, a', h1, h2, h => by
    simp only [tx, txs, Bool.and_eq_true] at h1 h2
    rw [rp_one, rp_two] at h
    simp only [List.cons.injEq, true_and] at h
    obtain ⟨e1, e2⟩ := rp_inj x x' _ _ h1.1 h2.1 h
    simp only [List.cons.injEq, true_and] at e2
    exact absurd e2.1 (by decide)
  | .tup (x :: y :: r), .tup [x'], a, a', h1, h2, h => by
    simp only [tx, txs, Bool.and_eq_true] at h1 h2
    rw [rp_one, rp_two] at h
    simp only [List.cons.injEq, true_and] at h
    obtain ⟨e1, e2⟩ := rp_inj x x' _ _ h1.1 h2.1 h
    simp only [List.cons.injEq, true_and] at e2
    exact absurd e2.1.symm (by decide)
  | .tup (x :: y :: r), .tup (x' :: y' :: r'), a, a', h1, h2, h => by
    simp only [tx, txs, Bool.and_eq_true] at h1 h2
    rw [rp_two, rp_two] at h
    simp only [List.cons.injEq, true_and] at h
    obtain ⟨e1, e2⟩ := rp_inj x x' _ _ h1.1 h2.1 h
    simp only [List.cons.injEq, true_and] at e2
    obtain ⟨e3, e4⟩ := rp_inj y y' _ _ h1.2.1 h2.2.1 e2
    obtain ⟨e5, e6⟩ := tail_inj r r' a a' h1.2.2 h2.2.2 e4
    exact ⟨by rw [e1, e3, e5], e6⟩
  | .non, .str s, a, a', _, _, h => by simp [rp] at h
  | .str s, .non, a, a', _, _, h => by simp [rp] at h
  | .non, .tup xs, a, a', _, _, h => by
    match xs with
    | [] => rw [rp_zero] at h; simp [rp] at h
    | [x] => rw [rp_one] at h; simp [rp] at h
    | x :: y :: r => rw [rp_two] at h; simp [rp] at h
  | .tup xs, .non, a, a', _, _, h => by
    match xs with
    | [] => rw [rp_zero] at h; simp [rp] at h
    | [x] => rw [rp_one] at h; simp [rp] at h
    | x :: y :: r => rw [rp_two] at h; simp [rp] at h
  | .str s, .tup xs, a, a', _, _, h => by
    match xs with
    | [] => rw [rp_zero] at h; simp [rp] at h
    | [x] => rw [rp_one] at h; simp [rp] at h
    | x :: y :: r => rw [rp_two] at h; simp [rp] at h
  | .tup xs, .str s, a, a', _, _, h => by
    match xs with
    | [] => rw [rp_zero] at h; simp [rp] at h
    | [x] => rw [rp_one] at h; simp [rp] at h
    | x :: y :: r => rw [rp_two] at h; simp [rp] at h
  | .bl _, _, _, _, h, _, _ => by simp [tx] at h
  | .int _, _, _, _, h, _, _ => by simp [tx] at h
  | .ob _, _, _, _, h, _, _ => by simp [tx] at h
  | .fn _, _, _, _, h, _, _ => by simp [tx] at h
  | .con _, _, _, _, h, _, _ => by simp [tx] at h
  | _, .bl _, _, _, _, h, _ => by simp [tx] at h
  | _, .int _, _, _, _, h, _ => by simp [tx] at h
  | _, .ob _, _, _, _, h, _ => by simp [tx] at h
  | _, .fn _, _, _, _, h, _ => by simp [tx] at h
  | _, .con _, _, _, _, h, _ => by simp [tx] at h
theorem tail_inj : ∀ (ds ds' : List D) (a a' : List Char), txs ds = true → txs ds' = true → tailE ds ++ a = tailE ds' ++ a' → ds = ds' ∧ a = a'
  | [], [], a, a', _, _, h => by simpa [tailE] using h
  | [], y :: r, a, a', _, _, h => by simp [tailE] at h
  | y :: r, [], a, a', _, _, h => by simp [tailE] at h
  | y :: r, y' :: r', a, a', h1, h2, h => by
    simp only [txs, Bool.and_eq_true] at h1 h2
    simp only [tailE, List.cons_append, List.append_assoc, List.cons.injEq, true_and] at h
    obtain ⟨e1, e2⟩ := rp_inj y y' _ _ h1.1 h2.1 h
    obtain ⟨e3, e4⟩ := tail_inj r r' a a' h1.2 h2.2 e2
    exact ⟨by rw [e1, e3], e4⟩
end
mutual
theorem tx_T {nms : List (List Char)} {bb : Nat} (hn : ∀ s ∈ nms, okL s) : ∀ {t : T} {k : Nat}, okT nms bb t k → tx (toD t) = true
  | .en, _, _ => rfl
  | .nm s, k, h => by
    simp only [okT] at h
    simp only [toD, tx, txs, (hn s h).1, Bool.and_true]; rfl
  | .du s, k, h => by
    simp only [okT] at h
    simp only [toD, tx, txs, (hn s h).1, Bool.and_true]; rfl
  | .say r, 0, h => by simp [okT] at h
  | .hear r, 0, h => by simp [okT] at h
  | .say r, k + 1, h => by
    simp only [okT] at h
    simp only [toD, tx, txs, tx_R hn h.2, Bool.and_true]; rfl
  | .hear r, k + 1, h => by
    simp only [okT] at h
    simp only [toD, tx, txs, tx_R hn h.2, Bool.and_true]; rfl
theorem tx_R {nms : List (List Char)} {bb : Nat} (hn : ∀ s ∈ nms, okL s) : ∀ {r : TR} {k : Nat}, okR nms bb r k → txs (rowsD r) = true
  | .nil, _, _ => rfl
  | .cons l p t r, k, h => by
    simp only [okR] at h
    have hp : tx p = true := by
      rcases h.2.1 with rfl | rfl | rfl | ⟨s, hs, rfl | rfl⟩
      · rfl
      · rfl
      · rfl
      · simp only [tx, txs, (hn s hs).1, Bool.and_true]; rfl
      · simp only [tx, txs, (hn s hs).1, Bool.and_true]; rfl
    simp only [rowsD, tx, txs, h.1.1.1, hp, tx_T hn h.2.2.1, tx_R hn h.2.2.2, Bool.and_self]
end
mutual
theorem toD_inj : ∀ {t t' : T}, toD t = toD t' → t = t'
  | .en, t', h => by cases t' <;> simp [toD] at h ⊢
  | .nm s, t', h => by cases t' <;> simp [toD] at h ⊢; exact h
  | .du s, t', h => by cases t' <;> simp [toD] at h ⊢; exact h
  | .say r, t', h => by cases t' <;> simp [toD] at h ⊢; exact rowsD_inj h
  | .hear r, t', h => by cases t' <;> simp [toD] at h ⊢; exact rowsD_inj h
theorem rowsD_inj : ∀ {r r' : TR}, rowsD r = rowsD r' → r = r'
  | .nil, r', h => by cases r' <;> simp [rowsD] at h ⊢
  | .cons l p t r, r', h => by
    cases r' with
    | nil => simp [rowsD] at h
    | cons l' p' t' r' =>
      simp only [rowsD, List.cons.injEq, D.tup.injEq, D.str.injEq, and_true] at h
      obtain ⟨⟨e1, e2, e3⟩, e4⟩ := h
      rw [e1, e2, toD_inj e3, rowsD_inj e4]
end
/-- equal texts, equal talks -/
theorem text_inj {nms : List (List Char)} {bb bb' : Nat} (hn : ∀ s ∈ nms, okL s) {t t' : T} {k k' : Nat} (h : okT nms bb t k) (h' : okT nms bb' t' k') (e : rp (toD t) = rp (toD t')) : t = t' :=
  toD_inj (rp_inj _ _ [] [] (tx_T hn h) (tx_T hn h') (by rw [e])).1
mutual
theorem eqv_eq : ∀ {d d' : D}, tx d = true → tx d' = true → eqv d d' = true → d = d'
  | .non, d', _, h2, h => by cases d' <;> simp [eqv, tx] at h h2 ⊢
  | .str s, d', _, h2, h => by cases d' <;> simp [eqv, tx] at h h2 ⊢; exact h
  | .tup xs, d', h1, h2, h => by
    cases d' <;> simp [eqv, tx] at h h1 h2 ⊢
    exact eqvs_eq h1 h2 h
  | .bl _, _, h, _, _ => by simp [tx] at h
  | .int _, _, h, _, _ => by simp [tx] at h
  | .ob _, _, h, _, _ => by simp [tx] at h
  | .fn _, _, h, _, _ => by simp [tx] at h
  | .con _, _, h, _, _ => by simp [tx] at h
theorem eqvs_eq : ∀ {ds ds' : List D}, txs ds = true → txs ds' = true → eqvs ds ds' = true → ds = ds'
  | [], ds', _, _, h => by cases ds' <;> simp [eqvs] at h ⊢
  | d :: ds, ds', h1, h2, h => by
    cases ds' with
    | nil => simp [eqvs] at h
    | cons d' ds' =>
      simp only [eqvs, txs, Bool.and_eq_true] at h h1 h2
      rw [eqv_eq h1.1 h2.1 h.1, eqvs_eq h1.2 h2.2 h.2]
end
theorem eqv_T {nms : List (List Char)} {bb bb' : Nat} (hn : ∀ s ∈ nms, okL s) {t t' : T} {k k' : Nat} (h : okT nms bb t k) (h' : okT nms bb' t' k') : (eqv (toD t) (toD t') = true) ↔ t = t' :=
  ⟨fun e => toD_inj (eqv_eq (tx_T hn h) (tx_T hn h') e), fun e => by subst e; exact eqv_refl _ (purT h)⟩
end K13
end

section
namespace K13
open PySem PySem.Spec PyProof.Rows L2 Rf
variable {nms : List (List Char)} {bb : Nat}
def rowF : TR → List Char → D
  | .nil, _ => .non
  | .cons l p t r, s => if l = s then .tup [.str l, p, toD t] else rowF r s
theorem rowF_flat : ∀ {r : TR} {k : Nat} (s : List Char), okR nms bb r k → k ≤ 10 → flat (rowF r s) = true ∧ pur (rowF r s) = true
  | .nil, _, _, _, _ => ⟨rfl, rfl⟩
  | .cons l p t r, k, s, h, hk => by
    simp only [okR] at h
    unfold rowF
    split
    · have h1 := purT h.2.2.1
      have h2 := depT h.2.2.1
      obtain ⟨h4, h3⟩ := okP_dat h.2.1
      refine ⟨?_, by simp [pur, purs, h4, h1]⟩
      simp [flat, pur, purs, h4, h1, dep, deps]; omega
    · exact rowF_flat s h.2.2.2 hk
def rowsT : T → TR
  | .say r => r | .hear r => r | _ => .nil
theorem rowsT_ok {t : T} {k : Nat} (h : okT nms bb t (k + 1)) : okR nms bb (rowsT t) k := by
  cases t <;> simp only [okT, rowsT, okR] at h ⊢
  · exact h.2
  · exact h.2
theorem kvGet_mem : ∀ {kvs : List (D × D)} {nms : List (List Char)}, kvs.map (·.1) = nms.map D.str → nms.Nodup → ∀ p ∈ kvs, kvGet kvs p.1 = some p.2
  | [], _, _, _, p, hp => by cases hp
  | (a, b) :: kvs, [], e, _, _, _ => by simp at e
  | (a, b) :: kvs, s :: nms, e, nd, p, hp => by
    simp only [List.map_cons, List.cons.injEq] at e
    obtain ⟨rfl, e⟩ := e
    rw [List.nodup_cons] at nd
    unfold kvGet
    rcases List.mem_cons.mp hp with rfl | hp
    · simp [eqv]
    · have ih := kvGet_mem e nd.2 p hp
      have : p.1 ∈ kvs.map (·.1) := List.mem_map.mpr ⟨p, hp, rfl⟩
      rw [e] at this
      obtain ⟨s', hs', e'⟩ := List.mem_map.mp this
      have hne : eqv (D.str s) p.1 = false := by
        rw [← e']
        simp only [eqv]
        apply beq_false_of_ne
        rintro rfl
        exact nd.1 hs'
      simp [hne, ih]
theorem eqKV_refl {kvs : List (D × D)} (hT : TB nms kvs) (e : kvs.map (·.1) = nms.map D.str) (nd : nms.Nodup) : eqKV kvs kvs = some true := by
  have fl : kvs.all (fun p => flat p.2) = true := by
    rw [List.all_eq_true]
    intro p hp
    obtain ⟨s, t, rfl, ho⟩ := hT p hp
    exact flatT ho (by omega)
  have ht : kvs.all (hitKV kvs) = true := by
    rw [List.all_eq_true]
    intro p hp
    unfold hitKV
    rw [kvGet_mem e nd p hp]
    obtain ⟨s, t, rfl, ho⟩ := hT p hp
    exact eqv_refl _ (purT ho)
  unfold eqKV
  rw [fl, ht]
  simp
theorem forI_rt {g : Gd} {turn : D → Sg → Hs → RS} {d x : D} {ds : List D} {σ : Sg} {h h' : Hs} (hs : same g h) (hs' : same g h') (e : turn d σ h = .ok (.rt x) h') : forI g turn (d :: ds) σ h = .ok (.rt x) (endG g h') := by simp [forI, hs, e, hs']
variable {W : Wd} (hW : Has W) (L : Nat)
include hW
abbrev bodyR : List S := [.ife (.cmp .eq (.ix (.var 2) (.cst (.int 0))) (.var 1)) [.ret (.var 2)] []]
omit hW in
theorem row_loop (cf : CF) (s : List Char) (s0 : Option D) (h : Hs) : ∀ (r : TR) (s2 : Option D), (rowF r s = .non ∧ ∃ s2', forI .none (fT W L cf (.nm 2) bodyR) (rowsD r) [s0, some (.str s), s2] h = .ok (.nx [s0, some (.str s), s2']) h) ∨ forI .none (fT W L cf (.nm 2) bodyR) (rowsD r) [s0, some (.str s), s2] h = .ok (.rt (rowF r s)) h
  | .nil, s2 => .inl ⟨rfl, s2, forI_nil (by trivial)⟩
  | .cons l p t r, s2 => by
    rw [rowsD]
    by_cases hl : l = s
    · subst hl
      refine .inr ?_
      rw [forI_rt (h' := h) (x := .tup [.str l, p, toD t]) (by trivial) (by trivial) ?_]
      · simp [rowF, endG]
      · rw [fT_some (σ1 := [s0, some (.str l), some (.tup [.str l, p, toD t])]) rfl]
        simp [q_set, q_put, q_expr, q_ret, q_retN, q_ife, q_cons, q_nil, q_cst, q_bin, q_neg, q_cmp, q_and, q_or, q_not, q_eife, q_tup, q_lst, q_dic, q_ix, q_slc, q_cal, q_blt, q_enil, q_econs, q_met, r_for, r_lc, r_var, r_ix_ob, r_sl_ob, r_put_ob, r_len_ob, r_tup_ob, r_lst_ob, r_addl, r_app, r_it_ob, r_in_ob, r_nin_ob, optI, Rf.start, atI_0]
    · have e : fT W L cf (.nm 2) bodyR (.tup [.str l, p, toD t]) [s0, some (.str s), s2] h = .ok (.nx [s0, some (.str s), some (.tup [.str l, p, toD t])]) h := by
        rw [fT_some (σ1 := [s0, some (.str s), some (.tup [.str l, p, toD t])]) rfl]
        simp [q_set, q_put, q_expr, q_ret, q_retN, q_ife, q_cons, q_nil, q_cst, q_bin, q_neg, q_cmp, q_and, q_or, q_not, q_eife, q_tup, q_lst, q_dic, q_ix, q_slc, q_cal, q_blt, q_enil, q_econs, q_met, r_for, r_lc, r_var, r_ix_ob, r_sl_ob, r_put_ob, r_len_ob, r_tup_ob, r_lst_ob, r_addl, r_app, r_it_ob, r_in_ob, r_nin_ob, optI, Rf.start, atI_0, hl]
      rcases row_loop cf s s0 h r (some (.tup [.str l, p, toD t])) with ⟨q, s2', e2⟩ | e2
      · exact .inl ⟨by simp [rowF, hl, q], s2', by rw [forI_nx (by trivial) e]; exact e2⟩
      · refine .inr ?_
        rw [forI_nx (by trivial) e, e2]
        simp [rowF, hl]
theorem rows_of_ok (hf : W.fns[14]? = some f_rows_of) (N : Nat) (hN : 1 ≤ N) (t : T) (h : Hs) : callF W L N 14 [toD t] h = .ok (.tup (rowsD (rowsT t))) h := by
  obtain ⟨M, rfl⟩ : ∃ M, N = M + 1 := ⟨N - 1, by omega⟩
  rw [callF_s hf rfl]
  cases t <;> simp [q_set, q_put, q_expr, q_ret, q_retN, q_ife, q_cons, q_nil, q_cst, q_bin, q_neg, q_cmp, q_and, q_or, q_not, q_eife, q_tup, q_lst, q_dic, q_ix, q_slc, q_cal, q_blt, q_enil, q_econs, q_met, r_for, r_lc, r_var, r_ix_ob, r_sl_ob, r_put_ob, r_len_ob, r_tup_ob, r_lst_ob, r_addl, r_app, r_it_ob, r_in_ob, r_nin_ob, optI, Rf.start, f_rows_of, toD, atI_0, atI_1, rowsT, rowsD, sizeLine]
end K13
end

section
namespace K13
open PySem PySem.Spec PyProof.Rows L2 Rf
/-! ### counting -/
theorem nodup_len {α : Type} : ∀ {l u : List α}, l.Nodup → (∀ x ∈ l, x ∈ u) → l.length ≤ u.length
  | [], _, _, _ => Nat.zero_le _
  | x :: l, u, nd, h => by
    classical
    rw [List.nodup_cons] at nd
    have hx := h x (List.mem_cons_self ..)
    have : l.length ≤ (u.erase x).length := nodup_len nd.2 fun y hy => by
      refine (List.mem_erase_of_ne ?_).mpr (h y (List.mem_cons_of_mem _ hy))
      rintro rfl
      exact nd.1 hy
    rw [List.length_erase_of_mem hx] at this
    have hu : 0 < u.length := List.length_pos_of_mem hx
    simp only [List.length_cons]; omega
/-! ### dicts by texts -/
theorem kvGet_put {kvs : List (D × D)} (hk : ∀ p ∈ kvs, ∃ s, p.1 = D.str s) (s s' : List Char) (v : D) : kvGet (kvPut kvs (.str s) v) (.str s') = if s = s' then some v else kvGet kvs (.str s') := by
  unfold kvPut
  by_cases ha : (kvs.any fun p => eqv p.1 (.str s)) = true
  · rw [if_pos ha]
    induction kvs with
    | nil => simp at ha
    | cons p kvs ih =>
      obtain ⟨a, b⟩ := p
      obtain ⟨z, rfl⟩ := hk (a, b) List.mem_cons_self
      have hk' := fun q hq => hk q (List.mem_cons_of_mem _ hq)
      simp only [List.map_cons, eqv]
      by_cases hz : z = s
      · subst hz
        simp only [beq_self_eq_true, if_true, kvGet, eqv]
        by_cases hs : z = s'
        · subst hs; simp
        · have : (z == s') = false := beq_false_of_ne hs
          simp only [this, Bool.false_eq_true, if_false, hs]
          -- the rest: no change that counts
          have go : ∀ l : List (D × D), kvGet (l.map fun p => if eqv p.1 (.str z) = true then (p.1, v) else p) (.str s') = kvGet l (.str s') ∨ ∃ q ∈ l, ∀ c, q.1 ≠ D.str c := by
            intro l
            induction l with
            | nil => exact .inl rfl
            | cons q l ih =>
              obtain ⟨a', b'⟩ := q
              by_cases hq : ∃ c, a' = D.str c
              · obtain ⟨c, rfl⟩ := hq
                rcases ih with e | ⟨q, hq, hc⟩
                · refine .inl ?_
                  simp only [List.map_cons, eqv]
                  by_cases hc : c = z
                  · subst hc
                    simp only [beq_self_eq_true, if_true, kvGet, eqv, this, Bool.false_eq_true, if_false, e]
                  · have h2 : (c == z) = false := beq_false_of_ne hc
                    simp only [h2, Bool.false_eq_true, if_false, kvGet, eqv, e]
                    by_cases hq : (c == s') = true <;> simp [hq]
                · exact .inr ⟨q, List.mem_cons_of_mem _ hq, hc⟩
              · exact .inr ⟨(a', b'), List.mem_cons_self, fun c e => hq ⟨c, e⟩⟩
          rcases go kvs with e | ⟨q, hq, hc⟩
          · exact e
          · obtain ⟨c, e⟩ := hk' q hq
            exact absurd e (hc c)
      · have h2 : (z == s) = false := beq_false_of_ne hz
        simp only [h2, Bool.false_eq_true, if_false, kvGet, eqv]
        by_cases hs : z = s'
        · subst hs
          simp only [beq_self_eq_true, if_true]
          rw [if_neg (Ne.symm hz)]
        · have h3 : (z == s') = false := beq_false_of_ne hs
          simp only [h3, Bool.false_eq_true, if_false]
          refine ih hk' ?_
          simpa only [List.any_cons, eqv, h2, Bool.false_or] using ha
  · rw [if_neg ha, kvGet_app]
    have hn : kvGet kvs (.str s) = none := kvGet_none fun p hp => by
      cases e : eqv p.1 (.str s) with
      | false => rfl
      | true => exact absurd (List.any_eq_true.mpr ⟨p, hp, e⟩) ha
    by_cases hs : s = s'
    · subst hs
      rw [hn]; simp [eqv]
    · rw [if_neg hs]
      cases kvGet kvs (.str s') with
      | some d => rfl
      | none =>
        have : (s == s') = false := beq_false_of_ne hs
        simp [eqv, this]
theorem kvPut_keys {kvs : List (D × D)} {k v : D} : (kvPut kvs k v).map (·.1) = if (kvs.any fun p => eqv p.1 k) = true then kvs.map (·.1) else kvs.map (·.1) ++ [k] := by
  unfold kvPut
  split
  · rw [List.map_map]
    refine List.map_congr_left fun p _ => ?_
    simp only [Function.comp]
    split <;> rfl
  · simp
/-! ### where names lead, once more -/
theorem Rs.det {nms : List (List Char)} {kvs : List (D × D)} {t r r' : T} {m m' : Nat} (h : Rs nms kvs t r m) (h' : Rs nms kvs t r' m') : r = r' := by
  induction h generalizing r' m' with
  | stop hs _ =>
    cases h' with
    | stop => rfl
    | nm => simp [isN] at hs
    | du => simp [isN] at hs
  | nm e _ ih =>
    cases h' with
    | stop hs => simp [isN] at hs
    | nm e' h'' =>
      have q := toD_inj (Option.some.inj (e.symm.trans e'))
      subst q
      exact ih h''
  | du e _ ih =>
    cases h' with
    | stop hs => simp [isN] at hs
    | du e' h'' =>
      have q := toD_inj (Option.some.inj (e.symm.trans e'))
      subst q
      rw [ih h'']
theorem isN_dl (t : T) : isN (dl t) = isN t := by cases t <;> rfl
theorem Rs.stop_ {nms : List (List Char)} {kvs : List (D × D)} {t r : T} {m : Nat} (h : Rs nms kvs t r m) : isN r = false := by
  induction h with
  | stop hs _ => exact hs
  | nm _ _ ih => exact ih
  | du _ _ ih => rw [isN_dl]; exact ih
/-- the rows as a list -/
def rowL : TR → List (List Char × D × T)
  | .nil => []
  | .cons l p t r => (l, p, t) :: rowL r
/-- all that is met -/
structure Uni (nms : List (List Char)) (kvs : List (D × D)) (V : List T) : Prop where
  nm : ∀ s ∈ nms, okL s
  tb : TB nms kvs
  ok : ∀ t ∈ V, okT nms 5 t 5
  rs : ∀ t ∈ V, ∃ r m, Rs nms kvs t r m ∧ m ≤ 5 ∧ r ∈ V
  af : ∀ t ∈ V, ∀ x ∈ rowL (rowsT t), x.2.2 ∈ V
  py : ∀ t ∈ V, ∀ x ∈ rowL (rowsT t), ∀ s, (x.2.1 = .tup [.str cN, .str s] → T.nm s ∈ V) ∧ (x.2.1 = .tup [.str cU, .str s] → T.du s ∈ V)
  ln : V.length ≤ 4000
/-! ### the object of heads -/
abbrev tx' (t : T) : D := .str (rp (toD t))
/-- the dict of numbers -/
structure NB (nms : List (List Char)) (kvs : List (D × D)) (V : List T) (met : List T) (nkv : List (D × D)) : Prop where
  ky : ∀ k ∈ nkv.map (·.1), ∃ t ∈ V, k = tx' t
  nd : (nkv.map (·.1)).Nodup
  gt : ∀ t ∈ V, ∀ v, kvGet nkv (tx' t) = some v → ∃ (i : Nat) (r : T) (m : Nat), v = .int i ∧ Rs nms kvs t r m ∧ met[i]? = some r
  al : ∀ (i : Nat) (t : T), met[i]? = some t → kvGet nkv (tx' t) = some (.int i)
structure HD (nms : List (List Char)) (kvs : List (D × D)) (V : List T) (o y nd m : Nat) (met : List T) (h : Hs) : Prop where
  ob : h[o]? = some (.ins 0 [("_source", .ob y), ("_numbers", .ob nd), ("_met", .ob m)])
  sr : h[y]? = some (.dic false false kvs)
  nb : ∃ nkv, h[nd]? = some (.dic false false nkv) ∧ NB nms kvs V met nkv
  mt : h[m]? = some (.lst (met.map toD))
  n1 : nd ≠ m
  n2 : o ≠ nd ∧ o ≠ m
  n3 : y ≠ nd ∧ y ≠ m
  vm : ∀ t ∈ met, t ∈ V ∧ isN t = false
  un : met.Nodup
section
variable {nms : List (List Char)} {kvs : List (D × D)} {V : List T} {o y nd m : Nat} {met : List T} {h h' : Hs}
theorem HD.len (H : HD nms kvs V o y nd m met h) (U : Uni nms kvs V) : met.length ≤ 4000 := Nat.le_trans (nodup_len H.un fun t ht => (H.vm t ht).1) U.ln
theorem NB.str {nkv : List (D × D)} (B : NB nms kvs V met nkv) : ∀ p ∈ nkv, ∃ s, p.1 = D.str s := fun p hp => by
  obtain ⟨t, _, e⟩ := B.ky p.1 (List.mem_map_of_mem hp)
  exact ⟨_, e⟩
theorem NB.okK {nkv : List (D × D)} (B : NB nms kvs V met nkv) (s : List Char) : okK false nkv (.str s) = true := by
  simp only [Rf.okK, Bool.false_eq_true, if_false, isK, Bool.true_and, List.all_eq_true]
  intro x hx
  obtain ⟨s, e⟩ := B.str x hx
  simp only [e, isK]
theorem NB.len {nkv : List (D × D)} (B : NB nms kvs V met nkv) (U : Uni nms kvs V) : nkv.length < sizeLine := by
  have : (nkv.map (·.1)).length ≤ (V.map tx').length := nodup_len B.nd fun k hk => by
    obtain ⟨t, ht, e⟩ := B.ky k hk
    rw [e]
    exact List.mem_map_of_mem ht
  rw [List.length_map, List.length_map] at this
  have := U.ln
  simp only [sizeLine]; omega
theorem tx_eq (U : Uni nms kvs V) {t t' : T} (ht : t ∈ V) (ht' : t' ∈ V) (e : rp (toD t) = rp (toD t')) : t = t' := text_inj U.nm (U.ok t ht) (U.ok t' ht') e
theorem NB.put {nkv : List (D × D)} (B : NB nms kvs V met nkv) (U : Uni nms kvs V) {t r : T} {i k : Nat} (ht : t ∈ V) (hr : Rs nms kvs t r k) (hi : met[i]? = some r) (un : met.Nodup) (vm : ∀ t ∈ met, t ∈ V ∧ isN t = false) : NB nms kvs V met (kvPut nkv (tx' t) (.int i)) where
  ky := fun k hk => by
    rw [kvPut_keys] at hk
    split at hk
    · exact B.ky k hk
    · rcases List.mem_append.mp hk with hk | hk
      · exact B.ky k hk
      · rw [List.mem_singleton] at hk
        exact ⟨t, ht, hk⟩
  nd := by
    rw [kvPut_keys]
    split
    · exact B.nd
    · rename_i hn
      rw [List.nodup_append]
      refine ⟨B.nd, by simp, fun a ha b hb => ?_⟩
      rw [List.mem_singleton] at hb
      subst hb
      rintro rfl
      apply hn
      obtain ⟨p, hp, e⟩ := List.mem_map.mp ha
      rw [List.any_eq_true]
      exact ⟨p, hp, by rw [e]; simp [eqv]⟩
  gt := fun t' ht' v e => by
    rw [kvGet_put B.str] at e
    split at e
    · rename_i hs
      cases e
      obtain rfl := tx_eq U ht ht' hs
      exact ⟨i, r, k, rfl, hr, hi⟩
    · exact B.gt t' ht' v e
  al := fun j t' hj => by
    rw [kvGet_put B.str]
    split
    · rename_i hs
      have ht' := vm t' (List.mem_of_getElem? hj)
      obtain rfl := tx_eq U ht ht'.1 hs
      have : r = t := (hr.det (.stop ht'.2 (U.ok t ht)))
      subst this
      have := (List.getElem?_inj (List.getElem?_eq_some_iff.mp hi).1 un).mp (hi.trans hj.symm)
      rw [this]
    · exact B.al j t' hj
theorem NB.add {nkv : List (D × D)} (B : NB nms kvs V met nkv) (U : Uni nms kvs V) {r : T} (hr : r ∈ V) (hs : isN r = false) (hn : kvGet nkv (tx' r) = none) (vm : ∀ t ∈ met, t ∈ V ∧ isN t = false) : NB nms kvs V (met ++ [r]) (kvPut nkv (tx' r) (.int met.length)) where
  ky := fun k hk => by
    rw [kvPut_keys] at hk
    split at hk
    · exact B.ky k hk
    · rcases List.mem_append.mp hk with hk | hk
      · exact B.ky k hk
      · rw [List.mem_singleton] at hk
        exact ⟨r, hr, hk⟩
  nd := by
    rw [kvPut_keys]
    split
    · exact B.nd
    · rename_i hn
      rw [List.nodup_append]
      refine ⟨B.nd, by simp, fun a ha b hb => ?_⟩
      rw [List.mem_singleton] at hb
      subst hb
      rintro rfl
      apply hn
      obtain ⟨p, hp, e⟩ := List.mem_map.mp ha
      rw [List.any_eq_true]
      exact ⟨p, hp, by rw [e]; simp [eqv]⟩
  gt := fun t' ht' v e => by
    rw [kvGet_put B.str] at e
    split at e
    · rename_i hs'
      cases e
      obtain rfl := tx_eq U hr ht' hs'
      exact ⟨met.length, r, 0, rfl, .stop hs (U.ok r hr), by simp⟩
    · obtain ⟨i, r', k, e1, e2, e3⟩ := B.gt t' ht' v e
      exact ⟨i, r', k, e1, e2, by rw [List.getElem?_append_left (List.getElem?_eq_some_iff.mp e3).1]; exact e3⟩
  al := fun j t' hj => by
    rw [kvGet_put B.str]
    by_cases hl : j < met.length
    · rw [List.getElem?_append_left hl] at hj
      have ht' := vm t' (List.mem_of_getElem? hj)
      split
      · rename_i hs'
        obtain rfl := tx_eq U hr ht'.1 hs'
        rw [B.al j _ hj] at hn; cases hn
      · exact B.al j t' hj
    · have hl2 : j = met.length := by
        have := (List.getElem?_eq_some_iff.mp hj).1
        simp at this; omega
      subst hl2
      simp at hj
      subst hj
      simp
/-- other objects may change -/
theorem HD.keep (H : HD nms kvs V o y nd m met h) (k : ∀ (i : Nat) (mo : MO), (i = o ∨ i = y ∨ i = nd ∨ i = m) → h[i]? = some mo → h'[i]? = some mo) : HD nms kvs V o y nd m met h' := by
  obtain ⟨nkv, e1, e2⟩ := H.nb
  exact ⟨k _ _ (.inl rfl) H.ob, k _ _ (.inr (.inl rfl)) H.sr, ⟨nkv, k _ _ (.inr (.inr (.inl rfl))) e1, e2⟩, k _ _ (.inr (.inr (.inr rfl))) H.mt, H.n1, H.n2, H.n3, H.vm, H.un⟩
theorem HD.kx (H : HD nms kvs V o y nd m met h) (k : Kx h h') : HD nms kvs V o y nd m met h' := H.keep fun i mo _ e => k.2 i mo e
theorem r_reprT {W : Wd} {t : T} (U : Uni nms kvs V) (ht : okT nms 5 t 5) : bltC W .repr [toD t] h = .ok (tx' t) h := by
  obtain ⟨a, b, c⟩ := rp_5 U.nm ht
  obtain ⟨xs, e⟩ : ∃ xs, toD t = .tup xs := by cases t <;> exact ⟨_, rfl⟩
  rw [e] at a b c
  unfold tx'
  rw [e]
  exact r_repr a b c
/-- Heads: the class of the world -/
def HasC (W : Wd) : Prop := W.cls[0]? = some ⟨[("number_of", 25), ("_head_number", 26), ("head_at", 27), ("many", 28)], some 24, ["_source", "_numbers", "_met"]⟩
variable {W : Wd} (hW : Has W) (hC : HasC W) (L : Nat)
include hC
omit hW in
theorem hasF_s : hasF W.cls 0 "_source" = true ∧ hasF W.cls 0 "_numbers" = true ∧ hasF W.cls 0 "_met" = true := by
  unfold hasF
  rw [hC]
  exact ⟨by decide, by decide, by decide⟩
include hW
theorem init_ok (N : Nat) (hN : 1 ≤ N) (h : Hs) (o y : Nat) (ho : h[o]? = some (.ins 0 [])) : ∃ h', callF W L N 24 [.ob o, .ob y] h = .ok .non h' ∧ h' = ((h.set o (MO.ins 0 [("_source", D.ob y)]) ++ [MO.dic false false []]).set o (MO.ins 0 [("_source", D.ob y), ("_numbers", D.ob h.length)]) ++ [MO.lst []]).set o (MO.ins 0 [("_source", D.ob y), ("_numbers", D.ob h.length), ("_met", D.ob (h.length + 1))]) := by
  obtain ⟨M, rfl⟩ : ∃ M, N = M + 1 := ⟨N - 1, by omega⟩
  rw [callF_s (hW 24 _ (by decide) rfl) rfl]
  obtain ⟨f1, f2, f3⟩ := hasF_s hC
  have hl := lk_lt ho
  refine ⟨_, ?_, rfl⟩
  have g1 : (h.set o (.ins 0 [("_source", .ob y)]) ++ [MO.dic false false []])[o]? = some (.ins 0 [("_source", .ob y)]) := by
    rw [List.getElem?_append_left (by simpa using hl)]; simp [hl]
  have g2 : ((h.set o (.ins 0 [("_source", .ob y)]) ++ [MO.dic false false []]).set o (.ins 0 [("_source", .ob y), ("_numbers", .ob h.length)]) ++ [MO.lst []])[o]? = some (.ins 0 [("_source", .ob y), ("_numbers", .ob h.length)]) := by
    rw [List.getElem?_append_left (by simp <;> omega)]; simp [show o < h.length + 1 by omega]
  simp [q_set, q_put, q_expr, q_ret, q_retN, q_ife, q_cons, q_nil, q_cst, q_bin, q_neg, q_cmp, q_and, q_or, q_not, q_eife, q_tup, q_lst, q_dic, q_ix, q_slc, q_cal, q_blt, q_enil, q_econs, q_met, q_fld, q_fset, r_for, r_lc, r_var, r_ix_ob, r_sl_ob, r_put_ob, r_len_ob, r_tup_ob, r_lst_ob, r_addl, r_app, r_it_ob, r_in_ob, r_nin_ob, r_fld, r_fset, optI, Rf.start, f_Heads_init, ho, f1, f2, f3, fput, g1, g2]
/-- Heads(table) -/
theorem new_ok (N : Nat) (hN : 1 ≤ N) (h : Hs) (y : Nat) (hy : h[y]? = some (.dic false false kvs)) : ∃ h', ((callF W L N 24 [.ob h.length, .ob y] (h ++ [.ins 0 []])).bind (newK h.length)) = .ok (.ob h.length) h' ∧
    HD nms kvs V h.length y (h.length + 1) (h.length + 2) [] h' ∧ Kx h h' := by
  obtain ⟨h', e, q⟩ := init_ok hW hC L N hN (h ++ [.ins 0 []]) h.length y lk_new
  have yl := lk_lt hy
  rw [e]
  refine ⟨h', rfl, ?_⟩
  rw [q]
  constructor
  · refine ⟨?_, ?_, ⟨[], ?_, ⟨by simp, by simp, by simp [kvGet], by simp⟩⟩, ?_, by omega, by omega, by omega, by simp, by simp⟩
    · simp
    · rw [List.getElem?_set_ne (by omega), List.getElem?_append_left (by simp <;> omega), List.getElem?_set_ne (by omega), List.getElem?_append_left (by simp <;> omega), List.getElem?_set_ne (by omega), List.getElem?_append_left yl]
      exact hy
    · rw [List.getElem?_set_ne (by omega), List.getElem?_append_left (by simp), List.getElem?_set_ne (by omega)]
      simp
    · rw [List.getElem?_set_ne (by omega)]
      simp
  · refine ⟨by simp <;> omega, fun i mo hi => ?_⟩
    have il := lk_lt hi
    rw [List.getElem?_set_ne (by omega), List.getElem?_append_left (by simp <;> omega), List.getElem?_set_ne (by omega), List.getElem?_append_left (by simp <;> omega), List.getElem?_set_ne (by omega), List.getElem?_append_left il]
    exact hi
theorem head_at_ok (H : HD nms kvs V o y nd m met h) (N : Nat) (hN : 1 ≤ N) {i : Nat} {t : T} (hi : met[i]? = some t) : callF W L N 27 [.ob o, .int i] h = .ok (toD t) h := by
  obtain ⟨M, rfl⟩ : ∃ M, N = M + 1 := ⟨N - 1, by omega⟩
  rw [callF_s (hW 27 _ (by decide) rfl) rfl]
  obtain ⟨f1, f2, f3⟩ := hasF_s hC
  have e1 := H.ob
  have e2 := H.mt
  have hl := (List.getElem?_eq_some_iff.mp hi).1
  have e3 : atI (met.map toD) (i : Int) = some (toD t) := by
    rw [atI_nat (by simpa using hl)]
    have := (List.getElem?_eq_some_iff.mp hi).2
    simp [this]
  simp [q_set, q_put, q_expr, q_ret, q_retN, q_ife, q_cons, q_nil, q_cst, q_bin, q_neg, q_cmp, q_and, q_or, q_not, q_eife, q_tup, q_lst, q_dic, q_ix, q_slc, q_cal, q_blt, q_enil, q_econs, q_met, q_fld, q_fset, r_for, r_lc, r_var, r_ix_ob, r_sl_ob, r_put_ob, r_len_ob, r_tup_ob, r_lst_ob, r_addl, r_app, r_it_ob, r_in_ob, r_nin_ob, r_fld, r_fset, optI, Rf.start, f_Heads_head_at, e1, f3, e2, e3, List.lookup]
theorem head_number_ok (U : Uni nms kvs V) (H : HD nms kvs V o y nd m met h) (N : Nat) (hN : 1 ≤ N) {r : T} (hr : r ∈ V) (hs : isN r = false) :
    ∃ (i : Nat) (met' : List T) (h' : Hs), callF W L N 26 [.ob o, toD r] h = .ok (.int i) h' ∧ met'[i]? = some r ∧ ((r ∈ met ∧ met' = met) ∨ (r ∉ met ∧ met' = met ++ [r])) ∧ HD nms kvs V o y nd m met' h' ∧ Ky nd m h h' := by
  obtain ⟨M, rfl⟩ : ∃ M, N = M + 1 := ⟨N - 1, by omega⟩
  rw [callF_s (hW 26 _ (by decide) rfl) rfl]
  obtain ⟨f1, f2, f3⟩ := hasF_s hC
  have e1 := H.ob
  have e2 := H.mt
  obtain ⟨nkv, e3, B⟩ := H.nb
  have ok := U.ok r hr
  have k1 := B.okK (rp (toD r))
  have rr := r_reprT (W := W) (h := h) U ok
  cases hg : kvGet nkv (tx' r) with
  | some v =>
    obtain ⟨i, r', k, rfl, q1, q2⟩ := B.gt r hr v hg
    obtain rfl := q1.det (.stop hs ok)
    refine ⟨i, met, h, ?_, q2, .inl ⟨List.mem_of_getElem? q2, rfl⟩, H, Ky.refl⟩
    simp [q_set, q_put, q_expr, q_ret, q_retN, q_ife, q_cons, q_nil, q_cst, q_bin, q_neg, q_cmp, q_and, q_or, q_not, q_eife, q_tup, q_lst, q_dic, q_ix, q_slc, q_cal, q_blt, q_enil, q_econs, q_met, q_fld, q_fset, r_for, r_lc, r_var, r_ix_ob, r_sl_ob, r_put_ob, r_len_ob, r_tup_ob, r_lst_ob, r_addl, r_app, r_it_ob, r_in_ob, r_nin_ob, r_fld, r_fset, optI, Rf.start, f_Heads_head_number, e1, f2, f3, e3, rr, k1, hg, List.lookup]
  | none =>
    have hn : r ∉ met := fun hm => by
      obtain ⟨i, hi⟩ := List.mem_iff_getElem?.mp hm
      rw [B.al i r hi] at hg; cases hg
    have B2 := B.add U hr hs hg H.vm
    have nl := lk_lt e3
    have ml := lk_lt e2
    have hlen := H.len U
    have hm1 : met.length < 16777216 := by omega
    have hk1 : nkv.length < 16777216 := B.len U
    obtain ⟨n21, n22⟩ := H.n2
    obtain ⟨n31, n32⟩ := H.n3
    have n1 := H.n1
    -- the heap behind
    have g1 : (h.set nd (.dic false false (kvPut nkv (tx' r) (.int met.length))))[o]? = some (.ins 0 [("_source", .ob y), ("_numbers", .ob nd), ("_met", .ob m)]) := by rw [List.getElem?_set_ne (Ne.symm n21)]; exact e1
    have g2 : (h.set nd (.dic false false (kvPut nkv (tx' r) (.int met.length))))[m]? = some (.lst (met.map toD)) := by rw [List.getElem?_set_ne n1]; exact e2
    have g3 : ((h.set nd (.dic false false (kvPut nkv (tx' r) (.int met.length)))).set m (.lst (met.map toD ++ [toD r])))[o]? = some (.ins 0 [("_source", .ob y), ("_numbers", .ob nd), ("_met", .ob m)]) := by rw [List.getElem?_set_ne (Ne.symm n22)]; exact g1
    have g4 : ((h.set nd (.dic false false (kvPut nkv (tx' r) (.int met.length)))).set m (.lst (met.map toD ++ [toD r])))[nd]? = some (.dic false false (kvPut nkv (tx' r) (.int met.length))) := by rw [List.getElem?_set_ne (Ne.symm n1)]; simp [nl]
    have g5 : kvGet (kvPut nkv (tx' r) (.int met.length)) (tx' r) = some (.int met.length) := by rw [kvGet_put B.str]; simp
    have k2 := B2.okK (rp (toD r))
    refine ⟨met.length, met ++ [r], (h.set nd (.dic false false (kvPut nkv (tx' r) (.int met.length)))).set m (.lst (met.map toD ++ [toD r])), ?_, by simp, .inr ⟨hn, rfl⟩, ?_, ?_⟩
    · simp [q_set, q_put, q_expr, q_ret, q_retN, q_ife, q_cons, q_nil, q_cst, q_bin, q_neg, q_cmp, q_and, q_or, q_not, q_eife, q_tup, q_lst, q_dic, q_ix, q_slc, q_cal, q_blt, q_enil, q_econs, q_met, q_fld, q_fset, r_for, r_lc, r_var, r_ix_ob, r_sl_ob, r_put_ob, r_len_ob, r_tup_ob, r_lst_ob, r_addl, r_app, r_it_ob, r_in_ob, r_nin_ob, r_fld, r_fset, optI, Rf.start, f_Heads_head_number, e1, f2, f3, e3, rr, k1, hg, List.lookup, e2, hk1, g1, g2, g3, g4, g5, k2, hm1, sizeLine, r_metapp g2]
    · refine ⟨g3, ?_, ⟨_, g4, B2⟩, ?_, n1, H.n2, H.n3, fun t ht => ?_, ?_⟩
      · rw [List.getElem?_set_ne (Ne.symm n32), List.getElem?_set_ne (Ne.symm n31)]; exact H.sr
      · simp [ml]
      · rcases List.mem_append.mp ht with ht | ht
        · exact H.vm t ht
        · rw [List.mem_singleton] at ht; subst ht; exact ⟨hr, hs⟩
      · rw [List.nodup_append]
        refine ⟨H.un, by simp, fun a ha b hb => ?_⟩
        rw [List.mem_singleton] at hb; subst hb
        rintro rfl
        exact hn ha
    · refine ⟨by simp, fun i mo h1 h2 e => ?_⟩
      rw [List.getElem?_set_ne (Ne.symm h2), List.getElem?_set_ne (Ne.symm h1)]; exact e
end
end K13
end

section
namespace K13
open PySem PySem.Spec PyProof.Rows L2 Rf
variable {nms : List (List Char)} {W : Wd} (hW : Has W) (L : Nat)
include hW
theorem row_of_ok (hf : W.fns[14]? = some f_rows_of) (hf2 : W.fns[16]? = some f_row_of) (N : Nat) (hN : 2 ≤ N) (t : T) (s : List Char) (h : Hs) : callF W L N 16 [toD t, .str s] h = .ok (rowF (rowsT t) s) h := by
  obtain ⟨M, rfl⟩ : ∃ M, N = M + 1 := ⟨N - 1, by omega⟩
  rw [callF_s hf2 rfl]
  have e1 := rows_of_ok hW L hf M (by omega) t h
  rcases row_loop (W := W) L (callF W L M) s (some (toD t)) h (rowsT t) none with ⟨q, s2', e2⟩ | e2
  · simp [q_set, q_put, q_expr, q_ret, q_retN, q_ife, q_cons, q_nil, q_cst, q_bin, q_neg, q_cmp, q_and, q_or, q_not, q_eife, q_tup, q_lst, q_dic, q_ix, q_slc, q_cal, q_blt, q_enil, q_econs, q_met, r_for, r_lc, r_var, r_ix_ob, r_sl_ob, r_put_ob, r_len_ob, r_tup_ob, r_lst_ob, r_addl, r_app, r_it_ob, r_in_ob, r_nin_ob, optI, Rf.start, f_row_of, e1, e2, q]
  · simp [q_set, q_put, q_expr, q_ret, q_retN, q_ife, q_cons, q_nil, q_cst, q_bin, q_neg, q_cmp, q_and, q_or, q_not, q_eife, q_tup, q_lst, q_dic, q_ix, q_slc, q_cal, q_blt, q_enil, q_econs, q_met, r_for, r_lc, r_var, r_ix_ob, r_sl_ob, r_put_ob, r_len_ob, r_tup_ob, r_lst_ob, r_addl, r_app, r_it_ob, r_in_ob, r_nin_ob, optI, Rf.start, f_row_of, e1, e2]
theorem lrow_ok (N : Nat) (hN : 1 ≤ N) (t : T) (s : List Char) (h : Hs) : callF W L N 10 [toD t, .str s] h = .ok (rowF (rowsT t) s) h := by
  obtain ⟨M, rfl⟩ : ∃ M, N = M + 1 := ⟨N - 1, by omega⟩
  rw [callF_s (hW 10 _ (by decide) rfl) rfl]
  have e2 := row_loop (W := W) L (callF W L M) s (some (toD t)) h (rowsT t) none
  cases t with
  | say r =>
    simp only [rowsT, toD] at e2 ⊢
    rcases e2 with ⟨q, s2', e2⟩ | e2
    · simp [q_set, q_put, q_expr, q_ret, q_retN, q_ife, q_cons, q_nil, q_cst, q_bin, q_neg, q_cmp, q_and, q_or, q_not, q_eife, q_tup, q_lst, q_dic, q_ix, q_slc, q_cal, q_blt, q_enil, q_econs, q_met, r_for, r_lc, r_var, r_ix_ob, r_sl_ob, r_put_ob, r_len_ob, r_tup_ob, r_lst_ob, r_addl, r_app, r_it_ob, r_in_ob, r_nin_ob, optI, Rf.start, f__law_row, atI_0, atI_1, e2, q]
    · simp [q_set, q_put, q_expr, q_ret, q_retN, q_ife, q_cons, q_nil, q_cst, q_bin, q_neg, q_cmp, q_and, q_or, q_not, q_eife, q_tup, q_lst, q_dic, q_ix, q_slc, q_cal, q_blt, q_enil, q_econs, q_met, r_for, r_lc, r_var, r_ix_ob, r_sl_ob, r_put_ob, r_len_ob, r_tup_ob, r_lst_ob, r_addl, r_app, r_it_ob, r_in_ob, r_nin_ob, optI, Rf.start, f__law_row, atI_0, atI_1, e2]
  | hear r =>
    simp only [rowsT, toD] at e2 ⊢
    rcases e2 with ⟨q, s2', e2⟩ | e2
    · simp [q_set, q_put, q_expr, q_ret, q_retN, q_ife, q_cons, q_nil, q_cst, q_bin, q_neg, q_cmp, q_and, q_or, q_not, q_eife, q_tup, q_lst, q_dic, q_ix, q_slc, q_cal, q_blt, q_enil, q_econs, q_met, r_for, r_lc, r_var, r_ix_ob, r_sl_ob, r_put_ob, r_len_ob, r_tup_ob, r_lst_ob, r_addl, r_app, r_it_ob, r_in_ob, r_nin_ob, optI, Rf.start, f__law_row, atI_0, atI_1, e2, q]
    · simp [q_set, q_put, q_expr, q_ret, q_retN, q_ife, q_cons, q_nil, q_cst, q_bin, q_neg, q_cmp, q_and, q_or, q_not, q_eife, q_tup, q_lst, q_dic, q_ix, q_slc, q_cal, q_blt, q_enil, q_econs, q_met, r_for, r_lc, r_var, r_ix_ob, r_sl_ob, r_put_ob, r_len_ob, r_tup_ob, r_lst_ob, r_addl, r_app, r_it_ob, r_in_ob, r_nin_ob, optI, Rf.start, f__law_row, atI_0, atI_1, e2]
  | _ => simp [q_set, q_put, q_expr, q_ret, q_retN, q_ife, q_cons, q_nil, q_cst, q_bin, q_neg, q_cmp, q_and, q_or, q_not, q_eife, q_tup, q_lst, q_dic, q_ix, q_slc, q_cal, q_blt, q_enil, q_econs, q_met, r_for, r_lc, r_var, r_ix_ob, r_sl_ob, r_put_ob, r_len_ob, r_tup_ob, r_lst_ob, r_addl, r_app, r_it_ob, r_in_ob, r_nin_ob, optI, Rf.start, f__law_row, toD, atI_0, atI_1, rowsT, rowF]
end K13
end

section
namespace K13
open PySem PySem.Spec PyProof.Rows L2 Rf
section
variable {nms : List (List Char)} {kvs : List (D × D)} {V : List T} {o y nd m : Nat} {met : List T} {h h' : Hs}
theorem HD.put (H : HD nms kvs V o y nd m met h) {nkv : List (D × D)} (B : NB nms kvs V met nkv) : HD nms kvs V o y nd m met (h.set nd (.dic false false nkv)) := by
  obtain ⟨nk0, e, _⟩ := H.nb
  have nl := lk_lt e
  refine ⟨?_, ?_, ⟨nkv, by simp [nl], B⟩, ?_, H.n1, H.n2, H.n3, H.vm, H.un⟩
  · rw [List.getElem?_set_ne (Ne.symm H.n2.1)]; exact H.ob
  · rw [List.getElem?_set_ne (Ne.symm H.n3.1)]; exact H.sr
  · rw [List.getElem?_set_ne H.n1]; exact H.mt
theorem Ky.setp {p y : Nat} {h : Hs} {o : MO} : Ky p y h (h.set p o) := ⟨by simp, fun i mo hi _ e => by rw [List.getElem?_set_ne (Ne.symm hi)]; exact e⟩
theorem Kx.ky {p y : Nat} {h h' : Hs} (k : Kx h h') : Ky p y h h' := ⟨k.1, fun i mo _ _ e => k.2 i mo e⟩
variable {W : Wd} (hW : Has W) (hC : HasC W) (L : Nat)
include hC hW
theorem met_hn (H : HD nms kvs V o y nd m met h) (cf : CF) (es : List E) (σ : Sg) : metK W cf "_head_number" es σ (.ob o) h = (evalEs W cf none es σ h).bind fun xs h => cf 26 (.ob o :: xs) h :=
  r_metI H.ob hC (by rfl) (by simp [List.lookup])
theorem met_no (H : HD nms kvs V o y nd m met h) (cf : CF) (es : List E) (σ : Sg) : metK W cf "number_of" es σ (.ob o) h = (evalEs W cf none es σ h).bind fun xs h => cf 25 (.ob o :: xs) h :=
  r_metI H.ob hC (by rfl) (by simp [List.lookup])
theorem met_ha (H : HD nms kvs V o y nd m met h) (cf : CF) (es : List E) (σ : Sg) : metK W cf "head_at" es σ (.ob o) h = (evalEs W cf none es σ h).bind fun xs h => cf 27 (.ob o :: xs) h :=
  r_metI H.ob hC (by rfl) (by simp [List.lookup])
theorem met_ma (H : HD nms kvs V o y nd m met h) (cf : CF) (es : List E) (σ : Sg) : metK W cf "many" es σ (.ob o) h = (evalEs W cf none es σ h).bind fun xs h => cf 28 (.ob o :: xs) h :=
  r_metI H.ob hC (by rfl) (by simp [List.lookup])
theorem number_of_ok (U : Uni nms kvs V) (H : HD nms kvs V o y nd m met h) (N : Nat) (hN : 13 ≤ N) (hL : 10 ≤ L) {t r : T} {k : Nat} (ht : t ∈ V) (hr : Rs nms kvs t r k) :
    ∃ (i : Nat) (met' : List T) (h' : Hs), callF W L N 25 [.ob o, toD t] h = .ok (.int i) h' ∧ met'[i]? = some r ∧ ((r ∈ met ∧ met' = met) ∨ (r ∉ met ∧ met' = met ++ [r])) ∧ HD nms kvs V o y nd m met' h' ∧ Ky nd m h h' := by
  obtain ⟨M, rfl⟩ : ∃ M, N = M + 1 := ⟨N - 1, by omega⟩
  rw [callF_s (hW 25 _ (by decide) rfl) rfl]
  obtain ⟨r', k', hr', hk', hv⟩ := U.rs t ht
  obtain rfl := hr.det hr'
  obtain ⟨f1, f2, f3⟩ := hasF_s hC
  have e1 := H.ob
  have e2 := H.mt
  obtain ⟨nkv, e3, B⟩ := H.nb
  have ok := U.ok t ht
  have k1 := B.okK (rp (toD t))
  have rr := r_reprT (W := W) (h := h) U ok
  have es : Rf.start f_Heads_number_of.ns [D.ob o, toD t] = [some (.ob o), some (toD t), none] := rfl
  rw [es]
  have s1 : evalS W L (callF W L M) none (.set 2 (.blt .repr [(.var 1)])) [some (.ob o), some (toD t), none] h = .ok (.nx [some (.ob o), some (toD t), some (tx' t)]) h := by simp [q_set, q_put, q_expr, q_ret, q_retN, q_ife, q_cons, q_nil, q_cst, q_bin, q_neg, q_cmp, q_and, q_or, q_not, q_eife, q_tup, q_lst, q_dic, q_ix, q_slc, q_cal, q_blt, q_enil, q_econs, q_met, q_fld, q_fset, r_for, r_lc, r_var, r_ix_ob, r_sl_ob, r_put_ob, r_len_ob, r_tup_ob, r_lst_ob, r_addl, r_app, r_it_ob, r_in_ob, r_nin_ob, r_fld, r_fset, optI, Rf.start, rr]
  unfold f_Heads_number_of
  rw [q_cons, s1, RS.then_nx, q_cons]
  cases hg : kvGet nkv (tx' t) with
  | some v =>
    obtain ⟨i, r', k', rfl, q1, q2⟩ := B.gt t ht v hg
    obtain rfl := hr.det q1
    refine ⟨i, met, h, ?_, q2, .inl ⟨List.mem_of_getElem? q2, rfl⟩, H, Ky.refl⟩
    simp [q_set, q_put, q_expr, q_ret, q_retN, q_ife, q_cons, q_nil, q_cst, q_bin, q_neg, q_cmp, q_and, q_or, q_not, q_eife, q_tup, q_lst, q_dic, q_ix, q_slc, q_cal, q_blt, q_enil, q_econs, q_met, q_fld, q_fset, r_for, r_lc, r_var, r_ix_ob, r_sl_ob, r_put_ob, r_len_ob, r_tup_ob, r_lst_ob, r_addl, r_app, r_it_ob, r_in_ob, r_nin_ob, r_fld, r_fset, optI, Rf.start, e1, f1, f2, f3, e3, k1, hg, List.lookup]
  | none =>
    obtain ⟨h1, e4, k4⟩ := head_ok hW L (hW 15 _ (by decide) rfl) M (by omega) hL y U.tb hr' hk' h false H.sr
    have H1 := H.kx k4
    obtain ⟨i, met', h2, e5, q1, q2, H2, k5⟩ := head_number_ok hW hC L U H1 M (by omega) hv hr.stop_
    obtain ⟨nkv2, e6, B2⟩ := H2.nb
    have g1 := H2.ob
    have k2 := B2.okK (rp (toD t))
    have l2 : nkv2.length < 16777216 := B2.len U
    have B3 := B2.put U ht hr q1 H2.un H2.vm
    have H3 := H2.put B3
    have g2 := H3.ob
    have nl := lk_lt e6
    have g3 : (h2.set nd (.dic false false (kvPut nkv2 (tx' t) (.int i))))[nd]? = some (.dic false false (kvPut nkv2 (tx' t) (.int i))) := by simp [nl]
    have k3 := B3.okK (rp (toD t))
    have g4 : kvGet (kvPut nkv2 (tx' t) (.int i)) (tx' t) = some (.int i) := by rw [kvGet_put B2.str]; simp
    refine ⟨i, met', h2.set nd (.dic false false (kvPut nkv2 (tx' t) (.int i))), ?_, q1, q2, H3, (k4.ky.trans k5).trans Ky.setp⟩
    have s2 : evalS W L (callF W L M) none (.ife (.cmp .nin (.var 2) (.fld (.var 0) "_numbers"))
      [.put (.fld (.var 0) "_numbers") (.var 2) (.met (.var 0) "_head_number" [(.cal 15 [(.fld (.var 0) "_source"), (.var 1)])])] []) [some (.ob o), some (toD t), some (tx' t)] h = .ok (.nx [some (.ob o), some (toD t), some (tx' t)]) (h2.set nd (.dic false false (kvPut nkv2 (tx' t) (.int i)))) := by
      simp [q_set, q_put, q_expr, q_ret, q_retN, q_ife, q_cons, q_nil, q_cst, q_bin, q_neg, q_cmp, q_and, q_or, q_not, q_eife, q_tup, q_lst, q_dic, q_ix, q_slc, q_cal, q_blt, q_enil, q_econs, q_met, q_fld, q_fset, r_for, r_lc, r_var, r_ix_ob, r_sl_ob, r_put_ob, r_len_ob, r_tup_ob, r_lst_ob, r_addl, r_app, r_it_ob, r_in_ob, r_nin_ob, r_fld, r_fset, optI, Rf.start, e1, f1, f2, f3, e3, k1, hg, List.lookup, met_hn hW hC H, e4, e5, g1, e6, k2, l2, sizeLine]
    rw [s2, RS.then_nx]
    simp [q_set, q_put, q_expr, q_ret, q_retN, q_ife, q_cons, q_nil, q_cst, q_bin, q_neg, q_cmp, q_and, q_or, q_not, q_eife, q_tup, q_lst, q_dic, q_ix, q_slc, q_cal, q_blt, q_enil, q_econs, q_met, q_fld, q_fset, r_for, r_lc, r_var, r_ix_ob, r_sl_ob, r_put_ob, r_len_ob, r_tup_ob, r_lst_ob, r_addl, r_app, r_it_ob, r_in_ob, r_nin_ob, r_fld, r_fset, optI, Rf.start, g2, f2, g3, k3, g4, List.lookup]
end
end K13
end

section
namespace K13
open PySem PySem.Spec PyProof.Rows L2 Rf
/-! ### parts of talks -/
mutual
def subs : T → List T
  | .en => [.en]
  | .nm s => [.nm s]
  | .du s => [.du s]
  | .say r => .say r :: subsR r
  | .hear r => .hear r :: subsR r
def subsR : TR → List T
  | .nil => []
  | .cons l p t r => subs t ++ subsR r
end
theorem subs_self : ∀ t : T, t ∈ subs t
  | .en => by simp [subs]
  | .nm s => by simp [subs]
  | .du s => by simp [subs]
  | .say r => by simp [subs]
  | .hear r => by simp [subs]
theorem rowL_subs : ∀ (r : TR), ∀ y ∈ rowL r, y.2.2 ∈ subsR r
  | .nil, y, h => by simp [rowL] at h
  | .cons l p t r, y, h => by
    simp only [rowL, List.mem_cons] at h
    simp only [subsR, List.mem_append]
    rcases h with rfl | h
    · exact .inl (subs_self t)
    · exact .inr (rowL_subs r y h)
mutual
theorem subs_af : ∀ (t x : T), x ∈ subs t → ∀ y ∈ rowL (rowsT x), y.2.2 ∈ subs t
  | .en, x, h, y, hy => by simp only [subs, List.mem_singleton] at h; subst h; simp [rowsT, rowL] at hy
  | .nm s, x, h, y, hy => by simp only [subs, List.mem_singleton] at h; subst h; simp [rowsT, rowL] at hy
  | .du s, x, h, y, hy => by simp only [subs, List.mem_singleton] at h; subst h; simp [rowsT, rowL] at hy
  | .say r, x, h, y, hy => by
    simp only [subs, List.mem_cons] at h ⊢
    rcases h with rfl | h
    · exact .inr (rowL_subs r y hy)
    · exact .inr (subsR_af r x h y hy)
  | .hear r, x, h, y, hy => by
    simp only [subs, List.mem_cons] at h ⊢
    rcases h with rfl | h
    · exact .inr (rowL_subs r y hy)
    · exact .inr (subsR_af r x h y hy)
theorem subsR_af : ∀ (r : TR) (x : T), x ∈ subsR r → ∀ y ∈ rowL (rowsT x), y.2.2 ∈ subsR r
  | .nil, x, h, _, _ => by simp [subsR] at h
  | .cons l p t r, x, h, y, hy => by
    simp only [subsR, List.mem_append] at h ⊢
    rcases h with h | h
    · exact .inl (subs_af t x h y hy)
    · exact .inr (subsR_af r x h y hy)
end
mutual
theorem subs_ok {nms : List (List Char)} {bb : Nat} : ∀ {t : T} {k : Nat}, okT nms bb t k → ∀ x ∈ subs t, okT nms bb x k
  | .en, k, h, x, hx => by simp only [subs, List.mem_singleton] at hx; subst hx; exact h
  | .nm s, k, h, x, hx => by simp only [subs, List.mem_singleton] at hx; subst hx; exact h
  | .du s, k, h, x, hx => by simp only [subs, List.mem_singleton] at hx; subst hx; exact h
  | .say r, 0, h, _, _ => by simp [okT] at h
  | .hear r, 0, h, _, _ => by simp [okT] at h
  | .say r, k + 1, h, x, hx => by
    simp only [subs, List.mem_cons] at hx
    rcases hx with rfl | hx
    · exact h
    · simp only [okT] at h
      exact (okT_mono (Nat.le_refl _)).1 _ _ (Nat.le_succ k) (subsR_ok h.2 x hx)
  | .hear r, k + 1, h, x, hx => by
    simp only [subs, List.mem_cons] at hx
    rcases hx with rfl | hx
    · exact h
    · simp only [okT] at h
      exact (okT_mono (Nat.le_refl _)).1 _ _ (Nat.le_succ k) (subsR_ok h.2 x hx)
theorem subsR_ok {nms : List (List Char)} {bb : Nat} : ∀ {r : TR} {k : Nat}, okR nms bb r k → ∀ x ∈ subsR r, okT nms bb x k
  | .nil, k, _, x, hx => by simp [subsR] at hx
  | .cons l p t r, k, h, x, hx => by
    simp only [okR] at h
    simp only [subsR, List.mem_append] at hx
    rcases hx with hx | hx
    · exact subs_ok h.2.2.1 x hx
    · exact subsR_ok h.2.2.2 x hx
end

mutual
def cnt : T → Nat
  | .say r => cntR r + 1
  | .hear r => cntR r + 1
  | _ => 1
def cntR : TR → Nat
  | .nil => 0
  | .cons _ _ t r => cnt t + cntR r
end
mutual
theorem subs_cnt : ∀ t : T, (subs t).length = cnt t
  | .en => rfl
  | .nm _ => rfl
  | .du _ => rfl
  | .say r => by simp only [subs, cnt, List.length_cons, subsR_cnt r]
  | .hear r => by simp only [subs, cnt, List.length_cons, subsR_cnt r]
theorem subsR_cnt : ∀ r : TR, (subsR r).length = cntR r
  | .nil => rfl
  | .cons _ _ t r => by simp only [subsR, cntR, List.length_append, subs_cnt t, subsR_cnt r]
end
mutual
theorem cnt_dl : ∀ t : T, cnt (dl t) = cnt t
  | .en => rfl
  | .nm _ => rfl
  | .du _ => rfl
  | .say r => by simp only [dl, cnt, cntR_dl r]
  | .hear r => by simp only [dl, cnt, cntR_dl r]
theorem cntR_dl : ∀ r : TR, cntR (dlR r) = cntR r
  | .nil => rfl
  | .cons _ _ t r => by simp only [dlR, cntR, cnt_dl t, cntR_dl r]
end
def zN (bb : Nat) : Nat → Nat
  | 0 => 1
  | k + 1 => bb * zN bb k + 1
theorem zN_pos {bb : Nat} : ∀ k, 1 ≤ zN bb k
  | 0 => Nat.le_refl _
  | k + 1 => by simp only [zN]; omega
mutual
theorem cnt_le {nms : List (List Char)} {bb : Nat} : ∀ {t : T} {k : Nat}, okT nms bb t k → cnt t ≤ zN bb k
  | .en, k, _ => zN_pos k
  | .nm s, k, _ => zN_pos k
  | .du s, k, _ => zN_pos k
  | .say r, 0, h => by simp [okT] at h
  | .hear r, 0, h => by simp [okT] at h
  | .say r, k + 1, h => by
    simp only [okT] at h
    have a := cntR_le h.2
    have b := Nat.mul_le_mul_right (zN bb k) h.1
    simp only [cnt, zN]; omega
  | .hear r, k + 1, h => by
    simp only [okT] at h
    have a := cntR_le h.2
    have b := Nat.mul_le_mul_right (zN bb k) h.1
    simp only [cnt, zN]; omega
theorem cntR_le {nms : List (List Char)} {bb : Nat} : ∀ {r : TR} {k : Nat}, okR nms bb r k → cntR r ≤ lenR r * zN bb k
  | .nil, k, _ => by simp [cntR]
  | .cons l p t r, k, h => by
    simp only [okR] at h
    have a := cnt_le h.2.2.1
    have b := cntR_le h.2.2.2
    simp only [cntR, lenR, Nat.add_mul, Nat.one_mul]; omega
end
/-- says and hears -/
def isS : T → Bool
  | .say _ => true | .hear _ => true | _ => false
mutual
def cnS : T → Nat
  | .say r => cnSR r + 1
  | .hear r => cnSR r + 1
  | _ => 0
def cnSR : TR → Nat
  | .nil => 0
  | .cons _ _ t r => cnS t + cnSR r
end
mutual
theorem subs_cnS : ∀ t : T, ((subs t).filter isS).length = cnS t
  | .en => rfl
  | .nm _ => rfl
  | .du _ => rfl
  | .say r => by simp only [subs, cnS, isS, List.filter_cons, if_true, List.length_cons, subsR_cnS r]
  | .hear r => by simp only [subs, cnS, isS, List.filter_cons, if_true, List.length_cons, subsR_cnS r]
theorem subsR_cnS : ∀ r : TR, ((subsR r).filter isS).length = cnSR r
  | .nil => rfl
  | .cons _ _ t r => by simp only [subsR, cnSR, List.filter_append, List.length_append, subs_cnS t, subsR_cnS r]
end
mutual
theorem cnS_dl : ∀ t : T, cnS (dl t) = cnS t
  | .en => rfl
  | .nm _ => rfl
  | .du _ => rfl
  | .say r => by simp only [dl, cnS, cnSR_dl r]
  | .hear r => by simp only [dl, cnS, cnSR_dl r]
theorem cnSR_dl : ∀ r : TR, cnSR (dlR r) = cnSR r
  | .nil => rfl
  | .cons _ _ t r => by simp only [dlR, cnSR, cnS_dl t, cnSR_dl r]
end
def zS (bb : Nat) : Nat → Nat
  | 0 => 0
  | k + 1 => bb * zS bb k + 1
mutual
theorem cnS_le {nms : List (List Char)} {bb : Nat} : ∀ {t : T} {k : Nat}, okT nms bb t k → cnS t ≤ zS bb k
  | .en, k, _ => Nat.zero_le _
  | .nm s, k, _ => Nat.zero_le _
  | .du s, k, _ => Nat.zero_le _
  | .say r, 0, h => by simp [okT] at h
  | .hear r, 0, h => by simp [okT] at h
  | .say r, k + 1, h => by
    simp only [okT] at h
    have a := cnSR_le h.2
    have b := Nat.mul_le_mul_right (zS bb k) h.1
    simp only [cnS, zS]; omega
  | .hear r, k + 1, h => by
    simp only [okT] at h
    have a := cnSR_le h.2
    have b := Nat.mul_le_mul_right (zS bb k) h.1
    simp only [cnS, zS]; omega
theorem cnSR_le {nms : List (List Char)} {bb : Nat} : ∀ {r : TR} {k : Nat}, okR nms bb r k → cnSR r ≤ lenR r * zS bb k
  | .nil, k, _ => by simp [cnSR]
  | .cons l p t r, k, h => by
    simp only [okR] at h
    have a := cnS_le h.2.2.1
    have b := cnSR_le h.2.2.2
    simp only [cnSR, lenR, Nat.add_mul, Nat.one_mul]; omega
end
/-! ### all that is met -/
def VV (nms : List (List Char)) (rs : List T) : List T := nms.map T.nm ++ nms.map T.du ++ rs.flatMap subs ++ rs.flatMap (fun t => subs (dl t))
theorem mem_VV {nms : List (List Char)} {rs : List T} {x : T} : x ∈ VV nms rs ↔ (∃ s ∈ nms, x = .nm s ∨ x = .du s) ∨ ∃ t ∈ rs, x ∈ subs t ∨ x ∈ subs (dl t) := by
  unfold VV
  simp only [List.mem_append, List.mem_map, List.mem_flatMap]
  constructor
  · rintro (((⟨s, hs, rfl⟩ | ⟨s, hs, rfl⟩) | ⟨t, ht, h⟩) | ⟨t, ht, h⟩)
    · exact .inl ⟨s, hs, .inl rfl⟩
    · exact .inl ⟨s, hs, .inr rfl⟩
    · exact .inr ⟨t, ht, .inl h⟩
    · exact .inr ⟨t, ht, .inr h⟩
  · rintro (⟨s, hs, rfl | rfl⟩ | ⟨t, ht, h | h⟩)
    · exact .inl (.inl (.inl ⟨s, hs, rfl⟩))
    · exact .inl (.inl (.inr ⟨s, hs, rfl⟩))
    · exact .inl (.inr ⟨t, ht, h⟩)
    · exact .inr ⟨t, ht, h⟩
theorem Rs.root {nms : List (List Char)} {kvs : List (D × D)} {tals : List T} (ht : ∀ s t, kvGet kvs (.str s) = some (toD t) → t ∈ tals) {t r : T} {m : Nat} (h : Rs nms kvs t r m) : r = t ∧ isN t = false ∨ ∃ tt ∈ tals, r = tt ∨ r = dl tt := by
  induction h with
  | stop hs _ => exact .inl ⟨rfl, hs⟩
  | @nm s t r m e h ih =>
    rcases ih with ⟨rfl, _⟩ | q
    · exact .inr ⟨_, ht _ _ e, .inl rfl⟩
    · exact .inr q
  | @du s t r m e h ih =>
    rcases ih with ⟨rfl, _⟩ | ⟨tt, h1, rfl | rfl⟩
    · exact .inr ⟨_, ht _ _ e, .inr rfl⟩
    · exact .inr ⟨_, h1, .inr rfl⟩
    · exact .inr ⟨_, h1, .inl (dl_dl _)⟩
theorem rowL_pay {nms : List (List Char)} {bb : Nat} : ∀ {r : TR} {k : Nat}, okR nms bb r k → ∀ x ∈ rowL r, (okL x.1 ∧ True) ∧ okP nms x.2.1 ∧ okT nms bb x.2.2 k
  | .nil, _, _, x, hx => by simp [rowL] at hx
  | .cons l p t r, k, h, x, hx => by
    simp only [okR] at h
    simp only [rowL, List.mem_cons] at hx
    rcases hx with rfl | hx
    · exact ⟨⟨h.1.1, trivial⟩, h.2.1, h.2.2.1⟩
    · exact rowL_pay h.2.2.2 x hx
theorem rowsT_ok0 {nms : List (List Char)} {bb : Nat} {t : T} {k : Nat} (h : okT nms bb t k) : ∃ j, okR nms bb (rowsT t) j := by
  cases t with
  | say r => cases k with
    | zero => simp [okT] at h
    | succ k => simp only [okT] at h; exact ⟨k, h.2⟩
  | hear r => cases k with
    | zero => simp [okT] at h
    | succ k => simp only [okT] at h; exact ⟨k, h.2⟩
  | _ => exact ⟨0, by simp only [rowsT, okR]⟩
theorem okP_nm {nms : List (List Char)} {p : D} (h : okP nms p) (s : List Char) : (p = .tup [.str cN, .str s] → s ∈ nms) ∧ (p = .tup [.str cU, .str s] → s ∈ nms) := by
  rcases h with rfl | rfl | rfl | ⟨s', hs, rfl | rfl⟩
  · simp
  · simp
  · simp
  · constructor
    · intro e; simp at e; subst e; exact hs
    · intro e; simp at e
  · constructor
    · intro e; simp at e
    · intro e; simp at e; subst e; exact hs
theorem uni_of {nms : List (List Char)} {kvs : List (D × D)} (hn : ∀ s ∈ nms, okL s) (hT : TB nms kvs) (hr : ∀ s ∈ nms, ∃ t r m, kvGet kvs (.str s) = some (toD t) ∧ Rs nms kvs t r m ∧ m ≤ 4)
    {tals own : List T} (ht : ∀ s t, kvGet kvs (.str s) = some (toD t) → t ∈ tals) (ho : ∀ t ∈ tals ++ own, okT nms 5 t 5) (hl : (VV nms (tals ++ own)).length ≤ 4000) : Uni nms kvs (VV nms (tals ++ own)) := by
  have hok : ∀ x ∈ VV nms (tals ++ own), okT nms 5 x 5 := by
    intro x hx
    rcases mem_VV.mp hx with ⟨s, hs, rfl | rfl⟩ | ⟨t, ht', h | h⟩
    · simp only [okT]; exact hs
    · simp only [okT]; exact hs
    · exact subs_ok (ho t ht') x h
    · exact subs_ok (okT_dl (ho t ht')) x h
  refine ⟨hn, hT, hok, fun t h => ?_, fun t h x hx => ?_, fun t h x hx s => ?_, hl⟩
  · have main : ∀ {r : T} {m : Nat}, Rs nms kvs t r m → m ≤ 5 → ∃ r m, Rs nms kvs t r m ∧ m ≤ 5 ∧ r ∈ VV nms (tals ++ own) := by
      intro r m q hm
      refine ⟨r, m, q, hm, ?_⟩
      rcases q.root ht with ⟨rfl, _⟩ | ⟨tt, h1, rfl | rfl⟩
      · exact h
      · exact mem_VV.mpr (.inr ⟨_, List.mem_append_left _ h1, .inl (subs_self _)⟩)
      · exact mem_VV.mpr (.inr ⟨_, List.mem_append_left _ h1, .inr (subs_self _)⟩)
    cases t with
    | nm s =>
      have hs := hok _ h
      simp only [okT] at hs
      obtain ⟨t', r, m, e, q, hm⟩ := hr s hs
      exact main (.nm e q) (by omega)
    | du s =>
      have hs := hok _ h
      simp only [okT] at hs
      obtain ⟨t', r, m, e, q, hm⟩ := hr s hs
      exact main (.du e q) (by omega)
    | en => exact main (.stop rfl (hok _ h)) (Nat.zero_le _)
    | say r => exact main (.stop rfl (hok _ h)) (Nat.zero_le _)
    | hear r => exact main (.stop rfl (hok _ h)) (Nat.zero_le _)
  · rcases mem_VV.mp h with ⟨s, hs, rfl | rfl⟩ | ⟨t', ht', h | h⟩
    · simp [rowsT, rowL] at hx
    · simp [rowsT, rowL] at hx
    · exact mem_VV.mpr (.inr ⟨t', ht', .inl (subs_af _ _ h x hx)⟩)
    · exact mem_VV.mpr (.inr ⟨t', ht', .inr (subs_af _ _ h x hx)⟩)
  · obtain ⟨j, hj⟩ := rowsT_ok0 (hok t h)
    have hp := (rowL_pay hj x hx).2.1
    obtain ⟨a, b⟩ := okP_nm hp s
    exact ⟨fun e => mem_VV.mpr (.inl ⟨s, a e, .inl rfl⟩), fun e => mem_VV.mpr (.inl ⟨s, b e, .inr rfl⟩)⟩
theorem VV_len {nms : List (List Char)} {rs : List T} {c : Nat} (h : ∀ t ∈ rs, cnt t ≤ c) : (VV nms rs).length ≤ 2 * nms.length + 2 * (rs.length * c) := by
  have a : ∀ (f : T → List T) (l : List T), (∀ t ∈ l, (f t).length ≤ c) → (l.flatMap f).length ≤ l.length * c := by
    intro f l
    induction l with
    | nil => intro _; simp
    | cons x l ih =>
      intro hl
      have := ih fun t ht => hl t (List.mem_cons_of_mem _ ht)
      have := hl x List.mem_cons_self
      simp only [List.flatMap_cons, List.length_append, List.length_cons, Nat.add_mul, Nat.one_mul]; omega
  have a1 := a subs rs fun t ht => by rw [subs_cnt]; exact h t ht
  have a2 := a (fun t => subs (dl t)) rs fun t ht => by rw [subs_cnt, cnt_dl]; exact h t ht
  unfold VV
  simp only [List.length_append, List.length_map]
  omega
theorem VV_S {nms : List (List Char)} {rs : List T} {c : Nat} (h : ∀ t ∈ rs, cnS t ≤ c) : ((VV nms rs).filter isS).length ≤ 2 * (rs.length * c) := by
  have a : ∀ (f : T → List T) (l : List T), (∀ t ∈ l, ((f t).filter isS).length ≤ c) → ((l.flatMap f).filter isS).length ≤ l.length * c := by
    intro f l
    induction l with
    | nil => intro _; simp
    | cons x l ih =>
      intro hl
      have := ih fun t ht => hl t (List.mem_cons_of_mem _ ht)
      have := hl x List.mem_cons_self
      simp only [List.flatMap_cons, List.filter_append, List.length_append, List.length_cons, Nat.add_mul, Nat.one_mul]; omega
  have a1 := a subs rs fun t ht => by rw [subs_cnS]; exact h t ht
  have a2 := a (fun t => subs (dl t)) rs fun t ht => by rw [subs_cnS, cnS_dl]; exact h t ht
  have b1 : (nms.map T.nm).filter isS = [] := List.filter_eq_nil_iff.mpr fun x hx => by
    obtain ⟨s, _, rfl⟩ := List.mem_map.mp hx; simp [isS]
  have b2 : (nms.map T.du).filter isS = [] := List.filter_eq_nil_iff.mpr fun x hx => by
    obtain ⟨s, _, rfl⟩ := List.mem_map.mp hx; simp [isS]
  unfold VV
  simp only [List.filter_append, List.length_append, b1, b2, List.length_nil]
  omega
/-- a table's talks -/
theorem TB.tals {nms : List (List Char)} {kvs : List (D × D)} (h : TB nms kvs) : ∃ tals : List T, tals.length = kvs.length ∧ (∀ t ∈ tals, okT nms 3 t 2) ∧ ∀ s t, kvGet kvs (.str s) = some (toD t) → t ∈ tals := by
  induction kvs with
  | nil => exact ⟨[], rfl, by simp, fun s t e => by simp [kvGet] at e⟩
  | cons x kvs ih =>
    obtain ⟨s', t', rfl, ho⟩ := h x List.mem_cons_self
    obtain ⟨tals, h1, h2, h3⟩ := ih fun y hy => h y (List.mem_cons_of_mem _ hy)
    refine ⟨t' :: tals, by simp [h1], fun t ht => ?_, fun s t e => ?_⟩
    · rcases List.mem_cons.mp ht with rfl | ht
      · exact ho
      · exact h2 t ht
    · unfold kvGet at e
      split at e
      · rw [toD_inj (Option.some.inj e)]; exact List.mem_cons_self
      · exact List.mem_cons_of_mem _ (h3 s t e)

open Classical in
noncomputable def hd (nms : List (List Char)) (kvs : List (D × D)) (t : T) : T := if h : ∃ r m, Rs nms kvs t r m then h.choose else t
theorem hd_eq {nms : List (List Char)} {kvs : List (D × D)} {t r : T} {m : Nat} (h : Rs nms kvs t r m) : hd nms kvs t = r := by
  have q : ∃ r m, Rs nms kvs t r m := ⟨r, m, h⟩
  unfold hd
  rw [dif_pos q]
  obtain ⟨m', h'⟩ := q.choose_spec
  exact h'.det h
section
variable {nms : List (List Char)} {kvs : List (D × D)} {V : List T}
theorem Uni.hd (U : Uni nms kvs V) {t : T} (ht : t ∈ V) : ∃ m, Rs nms kvs t (hd nms kvs t) m ∧ m ≤ 5 ∧ hd nms kvs t ∈ V ∧ isN (hd nms kvs t) = false := by
  obtain ⟨r, m, h, hm, hv⟩ := U.rs t ht
  rw [hd_eq h]
  exact ⟨m, h, hm, hv, h.stop_⟩
theorem Uni.hd_self (U : Uni nms kvs V) {t : T} (ht : t ∈ V) (hs : isN t = false) : K13.hd nms kvs t = t := hd_eq (.stop hs (U.ok t ht))
end
end K13
end

section
namespace K13
open PySem PySem.Spec PyProof.Rows L2 Rf
theorem r_tlst {n : Nat} {h : Hs} {s : List D} (e : h[n]? = some (.lst s)) : truthR (.ob n) h = .ok (!s.isEmpty) h := by simp [truthR, truth, e]
/-! ### a talk near another -/
def revA : TR → TR → TR
  | .nil, a => a
  | .cons l p t r, a => revA r (.cons l p t a)
theorem revA_rows : ∀ (r a : TR), rowsD (revA r a) = (rowsD r).reverse ++ rowsD a
  | .nil, a => by simp [revA, rowsD]
  | .cons l p t r, a => by simp [revA, rowsD, revA_rows r]
theorem revA_len : ∀ (r a : TR), lenR (revA r a) = lenR r + lenR a
  | .nil, a => by simp [revA, lenR]
  | .cons l p t r, a => by simp only [revA, lenR, revA_len r]; omega
theorem revA_ok {nms : List (List Char)} {bb k : Nat} : ∀ (r a : TR), okR nms bb r k → okR nms bb a k → (∀ x ∈ labs r, x ∉ labs a) → okR nms bb (revA r a) k
  | .nil, a, _, h, _ => h
  | .cons l p t r, a, h, ha, hd => by
    simp only [okR] at h
    simp only [labs, List.mem_cons] at hd
    refine revA_ok r _ h.2.2.2 ?_ fun x hx => ?_
    · simp only [okR]
      exact ⟨⟨h.1.1, hd l (.inl rfl)⟩, h.2.1, h.2.2.1, ha⟩
    · simp only [labs, List.mem_cons, not_or]
      refine ⟨?_, hd x (.inr hx)⟩
      rintro rfl
      exact h.1.2 hx
theorem lbs_loopV (v : Nat) {W : Wd} {σ : Sg} {σ1 : D → Sg} {g : Gd} (cf : CF) (h : Hs) (hg : same g h) (hσ : ∀ d, bindT (.nm v) d (wipeI σ [v]) = some (σ1 d)) (h7 : ∀ d, (σ1 d)[v]? = some (some d)) : ∀ (r : TR) (acc : List D), acc.length + lenR r < sizeLine →
    lcI g (lT W cf [v] (.nm v) [] (.ix (.var v) (.cst (.int 0))) σ) (rowsD r) acc h = .ok (acc ++ lbs r) (endG g h)
  | .nil, acc, _ => by rw [rowsD, lcI_nil hg]; simp [lbs]
  | .cons l p t r, acc, hl => by
    simp only [lenR] at hl
    rw [rowsD, lcI_some (h' := h) (x := .str l) hg ?_ (by omega), lbs_loopV v cf h hg hσ h7 r _ (by simp; omega)]
    · simp [lbs]
    · rw [lT_nil (hσ _)]
      simp [q_set, q_put, q_expr, q_ret, q_retN, q_ife, q_cons, q_nil, q_cst, q_bin, q_neg, q_cmp, q_and, q_or, q_not, q_eife, q_tup, q_lst, q_dic, q_ix, q_slc, q_cal, q_blt, q_enil, q_econs, q_met, q_fld, q_fset, r_for, r_lc, r_var, r_ix_ob, r_sl_ob, r_put_ob, r_len_ob, r_tup_ob, r_lst_ob, r_addl, r_app, r_it_ob, r_in_ob, r_nin_ob, r_fld, r_fset, r_isList_ob, optI, Rf.start, h7, atI, ixN]
section
variable {nms : List (List Char)} {kvs : List (D × D)} {y : Nat} {W : Wd} (hW : Has W) (L : Nat)
include hW
abbrev bodyNr : List S := [.set 5 (.cal 1 [(.var 0), (.cst (.int 9))]),
    .set 6 (.ix (.var 4) (.cst (.int 1))),
    .ife (.cmp .eq (.var 5) (.cst (.int 1)))
      [.set 6 (.cal 4 [(.var 0), (.blt .list [(.var 1)])])]
      [],
    .ife (.or (.cmp .gt (.var 5) (.cst (.int 0))) (.not (.var 3)))
      [.expr (.met (.var 3) "append" [(.tup [(.ix (.var 4) (.cst (.int 0))), (.var 6), (.cal 21 [(.var 0), (.var 1), (.ix (.var 4) (.cst (.int 2)))])])])]
      []]
/-- a leaf: the talk itself, or a drawn one -/
theorem near_leaf (p q : Nat) (ns : List Int) (hyp : y ≠ p) (em : kvs.map (·.1) = nms.map D.str) (hn : 0 < nms.length ∧ nms.length ≤ 3 ∧ ∀ s ∈ nms, okL s) (t : T) (hl : isS t = false) (N : Nat) (hN : 7 ≤ N) (h : Hs) (P : PO p q ns h) (hy : h[y]? = some (.dic false false kvs)) :
    ∃ (t' : T) (h' : Hs), callF W L N 21 [.ob p, .ob y, toD t] h = .ok (toD t') h' ∧ (t' = t ∨ okT nms 3 t' 1) ∧ PO p q ns h' ∧ Kp p h h' := by
  obtain ⟨M, rfl⟩ : ∃ M, N = M + 1 := ⟨N - 1, by omega⟩
  rw [callF_s (hW 21 _ (by decide) rfl) rfl]
  obtain ⟨c, h1, e1, a1, b1, P1, k1⟩ := takeN hW L M p q (by omega) ns 6 (by decide) (by decide) h P
  have y1 := k1.2 y _ hyp hy
  by_cases hc : c = 0
  · subst hc
    have Nn : NM h1.length nms (h1 ++ [.lst (nms.map D.str)]) := ⟨lk_new, hn⟩
    obtain ⟨t', h2, e2, o2, P2, k2, _⟩ := talk_ok hW L 1 M p q h1.length ns nms (h1 ++ [.lst (nms.map D.str)]) (by omega) P1.app Nn (by have := P1.lt; omega)
    rw [show ((1 : Nat) : Int) = 1 from rfl] at e2
    refine ⟨t', h2, ?_, .inr o2, P2, k1.trans (Kp.app.trans k2)⟩
    cases t <;> simp [isS] at hl <;> simp [q_set, q_put, q_expr, q_ret, q_retN, q_ife, q_cons, q_nil, q_cst, q_bin, q_neg, q_cmp, q_and, q_or, q_not, q_eife, q_tup, q_lst, q_dic, q_ix, q_slc, q_cal, q_blt, q_enil, q_econs, q_met, q_fld, q_fset, r_for, r_lc, r_var, r_ix_ob, r_sl_ob, r_put_ob, r_len_ob, r_tup_ob, r_lst_ob, r_addl, r_app, r_it_ob, r_in_ob, r_nin_ob, r_fld, r_fset, r_isList_ob, optI, Rf.start, f__law_near, toD, atI_0, e1, y1, em, e2]
  · refine ⟨t, h1, ?_, .inl rfl, P1, k1⟩
    cases t <;> simp [isS] at hl <;> simp [q_set, q_put, q_expr, q_ret, q_retN, q_ife, q_cons, q_nil, q_cst, q_bin, q_neg, q_cmp, q_and, q_or, q_not, q_eife, q_tup, q_lst, q_dic, q_ix, q_slc, q_cal, q_blt, q_enil, q_econs, q_met, q_fld, q_fset, r_for, r_lc, r_var, r_ix_ob, r_sl_ob, r_put_ob, r_len_ob, r_tup_ob, r_lst_ob, r_addl, r_app, r_it_ob, r_in_ob, r_nin_ob, r_fld, r_fset, r_isList_ob, optI, Rf.start, f__law_near, toD, atI_0, e1, hc]
def NearOk (W : Wd) (L : Nat) (nms : List (List Char)) (kvs : List (D × D)) (y p q : Nat) (ns : List Int) (b : Nat) (t : T) (k : Nat) : Prop :=
  ∀ (N : Nat) (h : Hs), k + 8 ≤ N → PO p q ns h → h[y]? = some (.dic false false kvs) →
    ∃ (t' : T) (h' : Hs), callF W L N 21 [.ob p, .ob y, toD t] h = .ok (toD t') h' ∧ okT nms (b + 1) t' (k + 1) ∧ PO p q ns h' ∧ Kp p h h'
/-- the end of a near talk: a further row, turned -/
theorem near_tail (p q z : Nat) (ns : List Int) (b : Nat) (hb3 : 3 ≤ b) (hb : b ≤ 8) (k : Nat) (hyp : y ≠ p) (hzp : z ≠ p) (hzq : z ≠ q) (hzy : z ≠ y) (em : kvs.map (·.1) = nms.map D.str) (hn : 0 < nms.length ∧ nms.length ≤ 3 ∧ ∀ s ∈ nms, okL s) (w : List Char) (rw0 : D) (M : Nat) (hM : 7 ≤ M) (s4 s5 s6 s7 : Option D) (h : Hs) (ra : TR) (P : PO p q ns h) (hy : h[y]? = some (.dic false false kvs)) (hz : h[z]? = some (.lst (rowsD ra)))
    (ho : okR nms (b + 1) ra (k + 1)) (hl : lenR ra ≤ b) :
    ∃ (r' : TR) (h' : Hs), (evalB W L (callF W L M) none [.set 7 (.cal 5 [(.var 0)]),
  .ife (.and (.cmp .eq (.cal 1 [(.var 0), (.cst (.int 5))]) (.cst (.int 0))) (.cmp .nin (.var 7) (.lc [4] (.nm 4) .seq [(.var 3)] [] (.ix (.var 4) (.cst (.int 0))))))
    [.expr (.met (.var 3) "append" [(.tup [(.var 7), (.cal 4 [(.var 0), (.blt .list [(.var 1)])]), (.cal 6 [(.var 0), (.blt .list [(.var 1)]), (.cst (.int 1))])])])]
    [],
  .ife (.cmp .eq (.cal 1 [(.var 0), (.cst (.int 4))]) (.cst (.int 0)))
    [.expr (.met (.var 3) "reverse" [])]
    [],
  .ret (.tup [(.ix (.var 2) (.cst (.int 0))), (.blt .tuple [(.var 3)])])] [some (.ob p), some (.ob y), some (.tup [.str w, rw0]), some (.ob z), s4, s5, s6, s7] h).fin = .ok (.tup [.str w, .tup (rowsD r')]) h' ∧ okR nms (b + 1) r' (k + 1) ∧ lenR r' ≤ b + 1 ∧ PO p q ns h' ∧ Ky p z h h' := by
  obtain ⟨s, h1, e1, ol, P1, k1⟩ := labelN hW L M p q (by omega) ns h P
  have y1 := k1.2 y _ hyp hy
  have z1 := k1.2 z _ hzp hz
  obtain ⟨c, h2, e2, a2, b2, P2, k2⟩ := takeN hW L M p q (by omega) ns 5 (by decide) (by decide) h1 P1
  have y2 := k2.2 y _ hyp y1
  have z2 := k2.2 z _ hzp z1
  have st7 : evalS W L (callF W L M) none (.set 7 (.cal 5 [(.var 0)])) [some (.ob p), some (.ob y), some (.tup [.str w, rw0]), some (.ob z), s4, s5, s6, s7] h = .ok (.nx [some (.ob p), some (.ob y), some (.tup [.str w, rw0]), some (.ob z), s4, s5, s6, some (.str s)]) h1 := by simp [q_set, q_put, q_expr, q_ret, q_retN, q_ife, q_cons, q_nil, q_cst, q_bin, q_neg, q_cmp, q_and, q_or, q_not, q_eife, q_tup, q_lst, q_dic, q_ix, q_slc, q_cal, q_blt, q_enil, q_econs, q_met, q_fld, q_fset, r_for, r_lc, r_var, r_ix_ob, r_sl_ob, r_put_ob, r_len_ob, r_tup_ob, r_lst_ob, r_addl, r_app, r_it_ob, r_in_ob, r_nin_ob, r_fld, r_fset, r_isList_ob, optI, Rf.start, e1]
  rw [q_cons, st7, RS.then_nx, q_cons]
  -- behind the further row
  have last : ∀ (ra : TR) (h3 : Hs), PO p q ns h3 → h3[z]? = some (.lst (rowsD ra)) → okR nms (b + 1) ra (k + 1) → lenR ra ≤ b + 1 → Ky p z h h3 →
      ∃ (r' : TR) (h' : Hs), (evalB W L (callF W L M) none [.ife (.cmp .eq (.cal 1 [(.var 0), (.cst (.int 4))]) (.cst (.int 0)))
    [.expr (.met (.var 3) "reverse" [])]
    [],
  .ret (.tup [(.ix (.var 2) (.cst (.int 0))), (.blt .tuple [(.var 3)])])] [some (.ob p), some (.ob y), some (.tup [.str w, rw0]), some (.ob z), s4, s5, s6, some (.str s)] h3).fin = .ok (.tup [.str w, .tup (rowsD r')]) h' ∧ okR nms (b + 1) r' (k + 1) ∧ lenR r' ≤ b + 1 ∧ PO p q ns h' ∧ Ky p z h h' := by
    intro ra h3 P3 z3 o3 l3 k3
    obtain ⟨v, h4, e4, a4, b4, P4, k4⟩ := takeN hW L M p q (by omega) ns 4 (by decide) (by decide) h3 P3
    have z4 := k4.2 z _ hzp z3
    have zl := lk_lt z4
    by_cases hv : v = 0
    · subst hv
      have z5 : (h4.set z (.lst (rowsD ra).reverse))[z]? = some (.lst (rowsD ra).reverse) := by simp [zl]
      have er : (rowsD ra).reverse = rowsD (revA ra .nil) := by rw [revA_rows]; simp [rowsD]
      refine ⟨revA ra .nil, h4.set z (.lst (rowsD ra).reverse), ?_, revA_ok ra .nil o3 (by simp only [okR]) (by simp [labs]), by rw [revA_len]; simp only [lenR]; omega, P4.set hzp hzq, k3.trans (k4.ky.trans Ky.set)⟩
      rw [← er]
      simp [q_set, q_put, q_expr, q_ret, q_retN, q_ife, q_cons, q_nil, q_cst, q_bin, q_neg, q_cmp, q_and, q_or, q_not, q_eife, q_tup, q_lst, q_dic, q_ix, q_slc, q_cal, q_blt, q_enil, q_econs, q_met, q_fld, q_fset, r_for, r_lc, r_var, r_ix_ob, r_sl_ob, r_put_ob, r_len_ob, r_tup_ob, r_lst_ob, r_addl, r_app, r_it_ob, r_in_ob, r_nin_ob, r_fld, r_fset, r_isList_ob, optI, Rf.start, e4, r_metrev z4, z5, atI_0, sizeLine]
    · refine ⟨ra, h4, ?_, o3, l3, P4, k3.trans k4.ky⟩
      simp [q_set, q_put, q_expr, q_ret, q_retN, q_ife, q_cons, q_nil, q_cst, q_bin, q_neg, q_cmp, q_and, q_or, q_not, q_eife, q_tup, q_lst, q_dic, q_ix, q_slc, q_cal, q_blt, q_enil, q_econs, q_met, q_fld, q_fset, r_for, r_lc, r_var, r_ix_ob, r_sl_ob, r_put_ob, r_len_ob, r_tup_ob, r_lst_ob, r_addl, r_app, r_it_ob, r_in_ob, r_nin_ob, r_fld, r_fset, r_isList_ob, optI, Rf.start, e4, hv, z4, atI_0, sizeLine]
  by_cases hc : c = 0
  · subst hc
    have el := lbs_loopV 4 (σ := [some (.ob p), some (.ob y), some (.tup [.str w, rw0]), some (.ob z), s4, s5, s6, some (.str s)]) (σ1 := fun d0 => [some (.ob p), some (.ob y), some (.tup [.str w, rw0]), some (.ob z), some d0, s5, s6, some (.str s)]) (W := W) (g := .keep z (.lst (rowsD ra))) (callF W L M) h2 z2 (fun _ => rfl) (fun _ => rfl) ra [] (by simp [sizeLine]; omega)
    simp only [List.nil_append, endG] at el
    have hfl : flat (.str s) = true := rfl
    have hfr := lbs_flat ra
    cases hin : inL (.str s) (lbs ra) with
    | true =>
      have a1 : evalS W L (callF W L M) none (.ife (.and (.cmp .eq (.cal 1 [(.var 0), (.cst (.int 5))]) (.cst (.int 0))) (.cmp .nin (.var 7) (.lc [4] (.nm 4) .seq [(.var 3)] [] (.ix (.var 4) (.cst (.int 0))))))
          [.expr (.met (.var 3) "append" [(.tup [(.var 7), (.cal 4 [(.var 0), (.blt .list [(.var 1)])]), (.cal 6 [(.var 0), (.blt .list [(.var 1)]), (.cst (.int 1))])])])]
          []) [some (.ob p), some (.ob y), some (.tup [.str w, rw0]), some (.ob z), s4, s5, s6, some (.str s)] h1 = .ok (.nx [some (.ob p), some (.ob y), some (.tup [.str w, rw0]), some (.ob z), s4, s5, s6, some (.str s)]) (h2 ++ [.lst (lbs ra)]) := by
        simp [q_set, q_put, q_expr, q_ret, q_retN, q_ife, q_cons, q_nil, q_cst, q_bin, q_neg, q_cmp, q_and, q_or, q_not, q_eife, q_tup, q_lst, q_dic, q_ix, q_slc, q_cal, q_blt, q_enil, q_econs, q_met, q_fld, q_fset, r_for, r_lc, r_var, r_ix_ob, r_sl_ob, r_put_ob, r_len_ob, r_tup_ob, r_lst_ob, r_addl, r_app, r_it_ob, r_in_ob, r_nin_ob, r_fld, r_fset, r_isList_ob, optI, Rf.start, e2, z2, el, lcEnd, hin, hfl, hfr]
      rw [a1, RS.then_nx]
      exact last ra (h2 ++ [.lst (lbs ra)]) P2.app (lk_app z2) ho (by omega) ((k1.trans (k2.trans Kp.app)).ky)
    | false =>
      have P3 : PO p q ns (h2 ++ [.lst (lbs ra)]) := P2.app
      have z3 : (h2 ++ [MO.lst (lbs ra)])[z]? = some (.lst (rowsD ra)) := lk_app z2
      have y3 : (h2 ++ [MO.lst (lbs ra)])[y]? = some (.dic false false kvs) := lk_app y2
      have N3 : NM (h2 ++ [MO.lst (lbs ra)]).length nms ((h2 ++ [MO.lst (lbs ra)]) ++ [.lst (nms.map D.str)]) := ⟨lk_new, hn⟩
      obtain ⟨pd, h4, e4, o4, P4, k4⟩ := kindN hW L M p q (h2 ++ [MO.lst (lbs ra)]).length (by omega) ns nms _ P3.app N3 (by have := P3.lt; omega)
      have z4 := k4.2 z _ hzp (lk_app z3)
      have y4 := k4.2 y _ hyp (lk_app y3)
      have N4 : NM h4.length nms (h4 ++ [.lst (nms.map D.str)]) := ⟨lk_new, hn⟩
      obtain ⟨t', h5, e5, o5, P5, k5, _⟩ := talk_ok hW L 1 M p q h4.length ns nms (h4 ++ [.lst (nms.map D.str)]) (by omega) P4.app N4 (by have := P4.lt; omega)
      rw [show ((1 : Nat) : Int) = 1 from rfl] at e5
      have z5 := k5.2 z _ hzp (lk_app z4)
      have zl := lk_lt z5
      have z6 : (h5.set z (.lst (rowsD (addR ra s pd t'))))[z]? = some (.lst (rowsD (addR ra s pd t'))) := by simp [zl]
      have kk : Kp p h h5 := k1.trans (k2.trans (Kp.app.trans (Kp.app.trans (k4.trans (Kp.app.trans k5)))))
      have rl : (rowsD ra).length < 16777216 := by rw [rowsD_len]; omega
      have a1 : evalS W L (callF W L M) none (.ife (.and (.cmp .eq (.cal 1 [(.var 0), (.cst (.int 5))]) (.cst (.int 0))) (.cmp .nin (.var 7) (.lc [4] (.nm 4) .seq [(.var 3)] [] (.ix (.var 4) (.cst (.int 0))))))
          [.expr (.met (.var 3) "append" [(.tup [(.var 7), (.cal 4 [(.var 0), (.blt .list [(.var 1)])]), (.cal 6 [(.var 0), (.blt .list [(.var 1)]), (.cst (.int 1))])])])]
          []) [some (.ob p), some (.ob y), some (.tup [.str w, rw0]), some (.ob z), s4, s5, s6, some (.str s)] h1 = .ok (.nx [some (.ob p), some (.ob y), some (.tup [.str w, rw0]), some (.ob z), s4, s5, s6, some (.str s)]) (h5.set z (.lst (rowsD (addR ra s pd t')))) := by
        have l3 : (h2 ++ [MO.lst (lbs ra)]).length = h2.length + 1 := by simp
        rw [l3] at e4
        rw [q_ife]
        have c1 : evalE W (callF W L M) none (.and (.cmp .eq (.cal 1 [(.var 0), (.cst (.int 5))]) (.cst (.int 0))) (.cmp .nin (.var 7) (.lc [4] (.nm 4) .seq [(.var 3)] [] (.ix (.var 4) (.cst (.int 0)))))) [some (.ob p), some (.ob y), some (.tup [.str w, rw0]), some (.ob z), s4, s5, s6, some (.str s)] h1 = .ok (.bl true) (h2 ++ [.lst (lbs ra)]) := by
          simp [q_set, q_put, q_expr, q_ret, q_retN, q_ife, q_cons, q_nil, q_cst, q_bin, q_neg, q_cmp, q_and, q_or, q_not, q_eife, q_tup, q_lst, q_dic, q_ix, q_slc, q_cal, q_blt, q_enil, q_econs, q_met, q_fld, q_fset, r_for, r_lc, r_var, r_ix_ob, r_sl_ob, r_put_ob, r_len_ob, r_tup_ob, r_lst_ob, r_addl, r_app, r_it_ob, r_in_ob, r_nin_ob, r_fld, r_fset, r_isList_ob, optI, Rf.start, e2, z2, el, lcEnd, hin, hfl, hfr]
        rw [c1, R.stm_ok, r_tbl, R.stm_ok, if_pos rfl]
        generalize (h2 ++ [MO.lst (lbs ra)]) = H3 at *
        rw [← l3] at e4
        simp [q_set, q_put, q_expr, q_ret, q_retN, q_ife, q_cons, q_nil, q_cst, q_bin, q_neg, q_cmp, q_and, q_or, q_not, q_eife, q_tup, q_lst, q_dic, q_ix, q_slc, q_cal, q_blt, q_enil, q_econs, q_met, q_fld, q_fset, r_for, r_lc, r_var, r_ix_ob, r_sl_ob, r_put_ob, r_len_ob, r_tup_ob, r_lst_ob, r_addl, r_app, r_it_ob, r_in_ob, r_nin_ob, r_fld, r_fset, r_isList_ob, optI, Rf.start, r_metapp z3, y3, em, e4, y4, e5, z5, rl, addR_rows, sizeLine]
      rw [a1, RS.then_nx]
      refine last (addR ra s pd t') _ (P5.set hzp hzq) z6 (addR_ok ho ol (fun q => by rw [inL_labs.mpr q] at hin; cases hin) o4 ((okT_mono (by omega)).1 _ _ (by omega) o5)) (by rw [addR_len]; omega) (kk.ky.trans Ky.set)
  · have a1 : evalS W L (callF W L M) none (.ife (.and (.cmp .eq (.cal 1 [(.var 0), (.cst (.int 5))]) (.cst (.int 0))) (.cmp .nin (.var 7) (.lc [4] (.nm 4) .seq [(.var 3)] [] (.ix (.var 4) (.cst (.int 0))))))
        [.expr (.met (.var 3) "append" [(.tup [(.var 7), (.cal 4 [(.var 0), (.blt .list [(.var 1)])]), (.cal 6 [(.var 0), (.blt .list [(.var 1)]), (.cst (.int 1))])])])]
        []) [some (.ob p), some (.ob y), some (.tup [.str w, rw0]), some (.ob z), s4, s5, s6, some (.str s)] h1 = .ok (.nx [some (.ob p), some (.ob y), some (.tup [.str w, rw0]), some (.ob z), s4, s5, s6, some (.str s)]) h2 := by
      simp [q_set, q_put, q_expr, q_ret, q_retN, q_ife, q_cons, q_nil, q_cst, q_bin, q_neg, q_cmp, q_and, q_or, q_not, q_eife, q_tup, q_lst, q_dic, q_ix, q_slc, q_cal, q_blt, q_enil, q_econs, q_met, q_fld, q_fset, r_for, r_lc, r_var, r_ix_ob, r_sl_ob, r_put_ob, r_len_ob, r_tup_ob, r_lst_ob, r_addl, r_app, r_it_ob, r_in_ob, r_nin_ob, r_fld, r_fset, r_isList_ob, optI, Rf.start, e2, hc]
    rw [a1, RS.then_nx]
    exact last ra h2 P2 z2 ho (by omega) ((k1.trans k2).ky)
end
end K13
end

section
namespace K13
open PySem PySem.Spec PyProof.Rows L2 Rf
section
variable {nms : List (List Char)} {kvs : List (D × D)} {y : Nat} {W : Wd} (hW : Has W) (L : Nat)
include hW
/-- one row -/
theorem near_row (p q z : Nat) (ns : List Int) (b k : Nat) (hb : b ≤ 8) (hyp : y ≠ p) (hzp : z ≠ p) (hzq : z ≠ q) (hzy : z ≠ y) (em : kvs.map (·.1) = nms.map D.str) (hn : 0 < nms.length ∧ nms.length ≤ 3 ∧ ∀ s ∈ nms, okL s) (M : Nat) (hM : k + 8 ≤ M) {l : List Char} {pd : D} {t : T} (ol : okL l) (op : okP nms pd) (ih : NearOk W L nms kvs y p q ns b t k)
    (td : D) (s4 s5 s6 s7 : Option D) (h : Hs) (ra : TR) (P : PO p q ns h) (hy : h[y]? = some (.dic false false kvs)) (hz : h[z]? = some (.lst (rowsD ra))) (ho : okR nms (b + 1) ra (k + 1)) (hl : l ∉ labs ra) (hr : lenR ra < b) :
    ∃ (s5' s6' : Option D) (ra' : TR) (h' : Hs), fT W L (callF W L M) (.nm 4) bodyNr (.tup [.str l, pd, toD t]) [some (.ob p), some (.ob y), some td, some (.ob z), s4, s5, s6, s7] h = .ok (.nx [some (.ob p), some (.ob y), some td, some (.ob z), some (.tup [.str l, pd, toD t]), s5', s6', s7]) h' ∧
      h'[z]? = some (.lst (rowsD ra')) ∧ okR nms (b + 1) ra' (k + 1) ∧ lenR ra' ≤ lenR ra + 1 ∧ (∀ x ∈ labs ra', x ∈ labs ra ∨ x = l) ∧ PO p q ns h' ∧ Ky p z h h' := by
  obtain ⟨c, h1, e1, a1, b1, P1, k1⟩ := takeN hW L M p q (by omega) ns 9 (by decide) (by decide) h P
  have y1 := k1.2 y _ hyp hy
  have z1 := k1.2 z _ hzp hz
  rw [fT_some (σ1 := [some (.ob p), some (.ob y), some td, some (.ob z), some (.tup [.str l, pd, toD t]), s5, s6, s7]) rfl]
  have st5 : evalS W L (callF W L M) none (.set 5 (.cal 1 [(.var 0), (.cst (.int 9))])) [some (.ob p), some (.ob y), some td, some (.ob z), some (.tup [.str l, pd, toD t]), s5, s6, s7] h = .ok (.nx [some (.ob p), some (.ob y), some td, some (.ob z), some (.tup [.str l, pd, toD t]), some (.int c), s6, s7]) h1 := by simp [q_set, q_put, q_expr, q_ret, q_retN, q_ife, q_cons, q_nil, q_cst, q_bin, q_neg, q_cmp, q_and, q_or, q_not, q_eife, q_tup, q_lst, q_dic, q_ix, q_slc, q_cal, q_blt, q_enil, q_econs, q_met, q_fld, q_fset, r_for, r_lc, r_var, r_ix_ob, r_sl_ob, r_put_ob, r_len_ob, r_tup_ob, r_lst_ob, r_addl, r_app, r_it_ob, r_in_ob, r_nin_ob, r_fld, r_fset, r_isList_ob, optI, Rf.start, e1]
  have st6 : evalS W L (callF W L M) none (.set 6 (.ix (.var 4) (.cst (.int 1)))) [some (.ob p), some (.ob y), some td, some (.ob z), some (.tup [.str l, pd, toD t]), some (.int c), s6, s7] h1 = .ok (.nx [some (.ob p), some (.ob y), some td, some (.ob z), some (.tup [.str l, pd, toD t]), some (.int c), some pd, s7]) h1 := by simp [q_set, q_put, q_expr, q_ret, q_retN, q_ife, q_cons, q_nil, q_cst, q_bin, q_neg, q_cmp, q_and, q_or, q_not, q_eife, q_tup, q_lst, q_dic, q_ix, q_slc, q_cal, q_blt, q_enil, q_econs, q_met, q_fld, q_fset, r_for, r_lc, r_var, r_ix_ob, r_sl_ob, r_put_ob, r_len_ob, r_tup_ob, r_lst_ob, r_addl, r_app, r_it_ob, r_in_ob, r_nin_ob, r_fld, r_fset, r_isList_ob, optI, Rf.start, atI_1]
  -- the row's end
  have fin : ∀ (pd' : D) (h2 : Hs), okP nms pd' → PO p q ns h2 → Kp p h h2 → h2[y]? = some (.dic false false kvs) → h2[z]? = some (.lst (rowsD ra)) →
      ∃ (ra' : TR) (h' : Hs), evalB W L (callF W L M) none [.ife (.or (.cmp .gt (.var 5) (.cst (.int 0))) (.not (.var 3)))
      [.expr (.met (.var 3) "append" [(.tup [(.ix (.var 4) (.cst (.int 0))), (.var 6), (.cal 21 [(.var 0), (.var 1), (.ix (.var 4) (.cst (.int 2)))])])])]
      []] [some (.ob p), some (.ob y), some td, some (.ob z), some (.tup [.str l, pd, toD t]), some (.int c), some pd', s7] h2 = .ok (.nx [some (.ob p), some (.ob y), some td, some (.ob z), some (.tup [.str l, pd, toD t]), some (.int c), some pd', s7]) h' ∧
        h'[z]? = some (.lst (rowsD ra')) ∧ okR nms (b + 1) ra' (k + 1) ∧ lenR ra' ≤ lenR ra + 1 ∧ (∀ x ∈ labs ra', x ∈ labs ra ∨ x = l) ∧ PO p q ns h' ∧ Ky p z h h' := by
    intro pd' h2 op' P2 k2 y2 z2
    obtain ⟨t', h3, e3, o3, P3, k3⟩ := ih M h2 hM P2 y2
    have z3 := k3.2 z _ hzp z2
    have zl := lk_lt z3
    have rl : (rowsD ra).length < 16777216 := by rw [rowsD_len]; omega
    have app : ∃ (ra' : TR) (h' : Hs), evalB W L (callF W L M) none [.expr (.met (.var 3) "append" [(.tup [(.ix (.var 4) (.cst (.int 0))), (.var 6), (.cal 21 [(.var 0), (.var 1), (.ix (.var 4) (.cst (.int 2)))])])])] [some (.ob p), some (.ob y), some td, some (.ob z), some (.tup [.str l, pd, toD t]), some (.int c), some pd', s7] h2 = .ok (.nx [some (.ob p), some (.ob y), some td, some (.ob z), some (.tup [.str l, pd, toD t]), some (.int c), some pd', s7]) h' ∧
        h'[z]? = some (.lst (rowsD ra')) ∧ okR nms (b + 1) ra' (k + 1) ∧ lenR ra' ≤ lenR ra + 1 ∧ (∀ x ∈ labs ra', x ∈ labs ra ∨ x = l) ∧ PO p q ns h' ∧ Ky p z h h' := by
      refine ⟨addR ra l pd' t', h3.set z (.lst (rowsD (addR ra l pd' t'))), ?_, by simp [zl], addR_ok ho ol hl op' o3, by rw [addR_len]; omega, fun x hx => ?_, P3.set hzp hzq, (k2.trans k3).ky.trans Ky.set⟩
      · simp [q_set, q_put, q_expr, q_ret, q_retN, q_ife, q_cons, q_nil, q_cst, q_bin, q_neg, q_cmp, q_and, q_or, q_not, q_eife, q_tup, q_lst, q_dic, q_ix, q_slc, q_cal, q_blt, q_enil, q_econs, q_met, q_fld, q_fset, r_for, r_lc, r_var, r_ix_ob, r_sl_ob, r_put_ob, r_len_ob, r_tup_ob, r_lst_ob, r_addl, r_app, r_it_ob, r_in_ob, r_nin_ob, r_fld, r_fset, r_isList_ob, optI, Rf.start, r_metapp z2, atI_0, atI_2, e3, z3, rl, addR_rows, sizeLine]
      · rw [labs_add] at hx
        simpa using hx
    by_cases hc : 0 < c
    · obtain ⟨ra', h', e4, rest⟩ := app
      refine ⟨ra', h', ?_, rest⟩
      rw [q_cons, q_ife]
      have c1 : evalE W (callF W L M) none (.or (.cmp .gt (.var 5) (.cst (.int 0))) (.not (.var 3))) [some (.ob p), some (.ob y), some td, some (.ob z), some (.tup [.str l, pd, toD t]), some (.int c), some pd', s7] h2 = .ok (.bl true) h2 := by
        simp [q_set, q_put, q_expr, q_ret, q_retN, q_ife, q_cons, q_nil, q_cst, q_bin, q_neg, q_cmp, q_and, q_or, q_not, q_eife, q_tup, q_lst, q_dic, q_ix, q_slc, q_cal, q_blt, q_enil, q_econs, q_met, q_fld, q_fset, r_for, r_lc, r_var, r_ix_ob, r_sl_ob, r_put_ob, r_len_ob, r_tup_ob, r_lst_ob, r_addl, r_app, r_it_ob, r_in_ob, r_nin_ob, r_fld, r_fset, r_isList_ob, optI, Rf.start, hc]
      rw [c1, R.stm_ok, r_tbl, R.stm_ok, if_pos rfl, e4]
      simp [q_set, q_put, q_expr, q_ret, q_retN, q_ife, q_cons, q_nil, q_cst, q_bin, q_neg, q_cmp, q_and, q_or, q_not, q_eife, q_tup, q_lst, q_dic, q_ix, q_slc, q_cal, q_blt, q_enil, q_econs, q_met, q_fld, q_fset, r_for, r_lc, r_var, r_ix_ob, r_sl_ob, r_put_ob, r_len_ob, r_tup_ob, r_lst_ob, r_addl, r_app, r_it_ob, r_in_ob, r_nin_ob, r_fld, r_fset, r_isList_ob, optI, Rf.start]
    · have c1 : evalE W (callF W L M) none (.or (.cmp .gt (.var 5) (.cst (.int 0))) (.not (.var 3))) [some (.ob p), some (.ob y), some td, some (.ob z), some (.tup [.str l, pd, toD t]), some (.int c), some pd', s7] h2 = .ok (.bl (rowsD ra).isEmpty) h2 := by
        simp [q_set, q_put, q_expr, q_ret, q_retN, q_ife, q_cons, q_nil, q_cst, q_bin, q_neg, q_cmp, q_and, q_or, q_not, q_eife, q_tup, q_lst, q_dic, q_ix, q_slc, q_cal, q_blt, q_enil, q_econs, q_met, q_fld, q_fset, r_for, r_lc, r_var, r_ix_ob, r_sl_ob, r_put_ob, r_len_ob, r_tup_ob, r_lst_ob, r_addl, r_app, r_it_ob, r_in_ob, r_nin_ob, r_fld, r_fset, r_isList_ob, optI, Rf.start, hc, r_tlst z2]
      cases he : (rowsD ra).isEmpty with
      | true =>
        obtain ⟨ra', h', e4, rest⟩ := app
        refine ⟨ra', h', ?_, rest⟩
        rw [q_cons, q_ife, c1, he, R.stm_ok, r_tbl, R.stm_ok, if_pos rfl, e4]
        simp [q_set, q_put, q_expr, q_ret, q_retN, q_ife, q_cons, q_nil, q_cst, q_bin, q_neg, q_cmp, q_and, q_or, q_not, q_eife, q_tup, q_lst, q_dic, q_ix, q_slc, q_cal, q_blt, q_enil, q_econs, q_met, q_fld, q_fset, r_for, r_lc, r_var, r_ix_ob, r_sl_ob, r_put_ob, r_len_ob, r_tup_ob, r_lst_ob, r_addl, r_app, r_it_ob, r_in_ob, r_nin_ob, r_fld, r_fset, r_isList_ob, optI, Rf.start]
      | false =>
        refine ⟨ra, h2, ?_, z2, ho, by omega, fun x hx => .inl hx, P2, k2.ky⟩
        rw [q_cons, q_ife, c1, he]
        simp [q_set, q_put, q_expr, q_ret, q_retN, q_ife, q_cons, q_nil, q_cst, q_bin, q_neg, q_cmp, q_and, q_or, q_not, q_eife, q_tup, q_lst, q_dic, q_ix, q_slc, q_cal, q_blt, q_enil, q_econs, q_met, q_fld, q_fset, r_for, r_lc, r_var, r_ix_ob, r_sl_ob, r_put_ob, r_len_ob, r_tup_ob, r_lst_ob, r_addl, r_app, r_it_ob, r_in_ob, r_nin_ob, r_fld, r_fset, r_isList_ob, optI, Rf.start]
  by_cases hc1 : c = 1
  · subst hc1
    have N1 : NM h1.length nms (h1 ++ [.lst (nms.map D.str)]) := ⟨lk_new, hn⟩
    obtain ⟨pd', h2, e2, op', P2, k2⟩ := kindN hW L M p q h1.length (by omega) ns nms _ P1.app N1 (by have := P1.lt; omega)
    have y2 := k2.2 y _ hyp (lk_app y1)
    have z2 := k2.2 z _ hzp (lk_app z1)
    obtain ⟨ra', h', e3, rest⟩ := fin pd' h2 op' P2 (k1.trans (Kp.app.trans k2)) y2 z2
    refine ⟨some (.int 1), some pd', ra', h', ?_, rest⟩
    have st7 : evalS W L (callF W L M) none (.ife (.cmp .eq (.var 5) (.cst (.int 1))) [.set 6 (.cal 4 [(.var 0), (.blt .list [(.var 1)])])] []) [some (.ob p), some (.ob y), some td, some (.ob z), some (.tup [.str l, pd, toD t]), some (.int 1), some pd, s7] h1 = .ok (.nx [some (.ob p), some (.ob y), some td, some (.ob z), some (.tup [.str l, pd, toD t]), some (.int 1), some pd', s7]) h2 := by
      simp [q_set, q_put, q_expr, q_ret, q_retN, q_ife, q_cons, q_nil, q_cst, q_bin, q_neg, q_cmp, q_and, q_or, q_not, q_eife, q_tup, q_lst, q_dic, q_ix, q_slc, q_cal, q_blt, q_enil, q_econs, q_met, q_fld, q_fset, r_for, r_lc, r_var, r_ix_ob, r_sl_ob, r_put_ob, r_len_ob, r_tup_ob, r_lst_ob, r_addl, r_app, r_it_ob, r_in_ob, r_nin_ob, r_fld, r_fset, r_isList_ob, optI, Rf.start, y1, em, e2]
    rw [q_cons, st5, RS.then_nx, q_cons, st6, RS.then_nx, q_cons, st7, RS.then_nx]
    exact e3
  · obtain ⟨ra', h', e3, rest⟩ := fin pd h1 op P1 k1 y1 z1
    refine ⟨some (.int c), some pd, ra', h', ?_, rest⟩
    have st7 : evalS W L (callF W L M) none (.ife (.cmp .eq (.var 5) (.cst (.int 1))) [.set 6 (.cal 4 [(.var 0), (.blt .list [(.var 1)])])] []) [some (.ob p), some (.ob y), some td, some (.ob z), some (.tup [.str l, pd, toD t]), some (.int c), some pd, s7] h1 = .ok (.nx [some (.ob p), some (.ob y), some td, some (.ob z), some (.tup [.str l, pd, toD t]), some (.int c), some pd, s7]) h1 := by
      simp [q_set, q_put, q_expr, q_ret, q_retN, q_ife, q_cons, q_nil, q_cst, q_bin, q_neg, q_cmp, q_and, q_or, q_not, q_eife, q_tup, q_lst, q_dic, q_ix, q_slc, q_cal, q_blt, q_enil, q_econs, q_met, q_fld, q_fset, r_for, r_lc, r_var, r_ix_ob, r_sl_ob, r_put_ob, r_len_ob, r_tup_ob, r_lst_ob, r_addl, r_app, r_it_ob, r_in_ob, r_nin_ob, r_fld, r_fset, r_isList_ob, optI, Rf.start, hc1]
    rw [q_cons, st5, RS.then_nx, q_cons, st6, RS.then_nx, q_cons, st7, RS.then_nx]
    exact e3
mutual
theorem near_ok (p q : Nat) (ns : List Int) (b : Nat) (hb3 : 3 ≤ b) (hb : b ≤ 8) (hyp : y ≠ p) (hyq : y ≠ q) (em : kvs.map (·.1) = nms.map D.str) (hn : 0 < nms.length ∧ nms.length ≤ 3 ∧ ∀ s ∈ nms, okL s) : ∀ (t : T) (k : Nat), okT nms b t k → NearOk W L nms kvs y p q ns b t k
  | .en, k, ho => fun N h hN P hy => by
    obtain ⟨t', h', e, o, P', k'⟩ := near_leaf hW L p q ns hyp em hn .en rfl N (by omega) h P hy
    refine ⟨t', h', e, ?_, P', k'⟩
    rcases o with rfl | o
    · exact (okT_mono (by omega)).1 _ _ (by omega) ho
    · exact (okT_mono (by omega)).1 _ _ (by omega) o
  | .nm s, k, ho => fun N h hN P hy => by
    obtain ⟨t', h', e, o, P', k'⟩ := near_leaf hW L p q ns hyp em hn (.nm s) rfl N (by omega) h P hy
    refine ⟨t', h', e, ?_, P', k'⟩
    rcases o with rfl | o
    · exact (okT_mono (by omega)).1 _ _ (by omega) ho
    · exact (okT_mono (by omega)).1 _ _ (by omega) o
  | .du s, k, ho => fun N h hN P hy => by
    obtain ⟨t', h', e, o, P', k'⟩ := near_leaf hW L p q ns hyp em hn (.du s) rfl N (by omega) h P hy
    refine ⟨t', h', e, ?_, P', k'⟩
    rcases o with rfl | o
    · exact (okT_mono (by omega)).1 _ _ (by omega) ho
    · exact (okT_mono (by omega)).1 _ _ (by omega) o
  | .say r, 0, ho => by simp [okT] at ho
  | .hear r, 0, ho => by simp [okT] at ho
  | .say r, k + 1, ho => fun N h hN P hy => by
    obtain ⟨M, rfl⟩ : ∃ M, N = M + 1 := ⟨N - 1, by omega⟩
    simp only [okT] at ho
    obtain ⟨s4, s5, s6, ra, h1, e1, z1, o1, l1, P1, k1⟩ := near_loop p q ns b hb3 hb hyp hyq em hn r k ho.2 M h.length (by omega) (by have := P.lt; omega) (by obtain ⟨_, _, _, _, _, e⟩ := P; have := lk_lt e; omega) (by have := lk_lt hy; omega) (toD (.say r)) none none none none (h ++ [.lst []]) .nil P.app (lk_app hy) lk_new (by simp only [okR]) (by simp [labs]) (by simp only [lenR]; omega)
    obtain ⟨r', h2, e2, o2, l2, P2, k2⟩ := near_tail hW L p q h.length ns b hb3 hb k hyp (by have := P.lt; omega) (by obtain ⟨_, _, _, _, _, e⟩ := P; have := lk_lt e; omega) (by have := lk_lt hy; omega) em hn cS (.tup (rowsD r)) M (by omega) s4 s5 s6 none h1 ra P1 (k1.2 y _ hyp (by have := lk_lt hy; omega) (lk_app hy)) z1 o1 l1
    refine ⟨.say r', h2, ?_, by simp only [okT]; exact ⟨l2, o2⟩, P2, Ky.kp Kp.app (Nat.le_refl _) (k1.trans k2)⟩
    rw [callF_s (hW 21 _ (by decide) rfl) rfl]
    have eb : f__law_near.body = [.ife (.or (.cmp .eq (.ix (.var 2) (.cst (.int 0))) (.cst (.str ['e', 'n', 'd']))) (.or (.cmp .eq (.ix (.var 2) (.cst (.int 0))) (.cst (.str ['n', 'a', 'm', 'e']))) (.cmp .eq (.ix (.var 2) (.cst (.int 0))) (.cst (.str ['d', 'u', 'a', 'l'])))))
    [.ife (.cmp .eq (.cal 1 [(.var 0), (.cst (.int 6))]) (.cst (.int 0)))
      [.ret (.cal 6 [(.var 0), (.blt .list [(.var 1)]), (.cst (.int 1))])]
      [],
    .ret (.var 2)]
    [], .set 3 (.lst []), .for_ (.nm 4) .seq [(.ix (.var 2) (.cst (.int 1)))] bodyNr] ++ [.set 7 (.cal 5 [(.var 0)]),
  .ife (.and (.cmp .eq (.cal 1 [(.var 0), (.cst (.int 5))]) (.cst (.int 0))) (.cmp .nin (.var 7) (.lc [4] (.nm 4) .seq [(.var 3)] [] (.ix (.var 4) (.cst (.int 0))))))
    [.expr (.met (.var 3) "append" [(.tup [(.var 7), (.cal 4 [(.var 0), (.blt .list [(.var 1)])]), (.cal 6 [(.var 0), (.blt .list [(.var 1)]), (.cst (.int 1))])])])]
    [],
  .ife (.cmp .eq (.cal 1 [(.var 0), (.cst (.int 4))]) (.cst (.int 0)))
    [.expr (.met (.var 3) "reverse" [])]
    [],
  .ret (.tup [(.ix (.var 2) (.cst (.int 0))), (.blt .tuple [(.var 3)])])] := rfl
    have es : Rf.start f__law_near.ns [D.ob p, D.ob y, toD (.say r)] = [some (.ob p), some (.ob y), some (toD (.say r)), none, none, none, none, none] := rfl
    rw [eb, es]
    have a1 : evalS W L (callF W L M) none (.ife (.or (.cmp .eq (.ix (.var 2) (.cst (.int 0))) (.cst (.str ['e', 'n', 'd']))) (.or (.cmp .eq (.ix (.var 2) (.cst (.int 0))) (.cst (.str ['n', 'a', 'm', 'e']))) (.cmp .eq (.ix (.var 2) (.cst (.int 0))) (.cst (.str ['d', 'u', 'a', 'l'])))))
    [.ife (.cmp .eq (.cal 1 [(.var 0), (.cst (.int 6))]) (.cst (.int 0)))
      [.ret (.cal 6 [(.var 0), (.blt .list [(.var 1)]), (.cst (.int 1))])]
      [],
    .ret (.var 2)]
    []) [some (.ob p), some (.ob y), some (toD (.say r)), none, none, none, none, none] h = .ok (.nx [some (.ob p), some (.ob y), some (toD (.say r)), none, none, none, none, none]) h := by simp [q_set, q_put, q_expr, q_ret, q_retN, q_ife, q_cons, q_nil, q_cst, q_bin, q_neg, q_cmp, q_and, q_or, q_not, q_eife, q_tup, q_lst, q_dic, q_ix, q_slc, q_cal, q_blt, q_enil, q_econs, q_met, q_fld, q_fset, r_for, r_lc, r_var, r_ix_ob, r_sl_ob, r_put_ob, r_len_ob, r_tup_ob, r_lst_ob, r_addl, r_app, r_it_ob, r_in_ob, r_nin_ob, r_fld, r_fset, r_isList_ob, optI, Rf.start, toD, atI_0]
    have a2 : evalS W L (callF W L M) none (.set 3 (.lst [])) [some (.ob p), some (.ob y), some (toD (.say r)), none, none, none, none, none] h = .ok (.nx [some (.ob p), some (.ob y), some (toD (.say r)), some (.ob h.length), none, none, none, none]) (h ++ [.lst []]) := by simp [q_set, q_put, q_expr, q_ret, q_retN, q_ife, q_cons, q_nil, q_cst, q_bin, q_neg, q_cmp, q_and, q_or, q_not, q_eife, q_tup, q_lst, q_dic, q_ix, q_slc, q_cal, q_blt, q_enil, q_econs, q_met, q_fld, q_fset, r_for, r_lc, r_var, r_ix_ob, r_sl_ob, r_put_ob, r_len_ob, r_tup_ob, r_lst_ob, r_addl, r_app, r_it_ob, r_in_ob, r_nin_ob, r_fld, r_fset, r_isList_ob, optI, Rf.start, sizeLine]
    have a3 : evalS W L (callF W L M) none (.for_ (.nm 4) .seq [(.ix (.var 2) (.cst (.int 1)))] bodyNr) [some (.ob p), some (.ob y), some (toD (.say r)), some (.ob h.length), none, none, none, none] (h ++ [.lst []]) = .ok (.nx [some (.ob p), some (.ob y), some (toD (.say r)), some (.ob h.length), s4, s5, s6, none]) h1 := by
      have i5 : evalEs W (callF W L M) none [(.ix (.var 2) (.cst (.int 1)))] [some (.ob p), some (.ob y), some (toD (.say r)), some (.ob h.length), none, none, none, none] (h ++ [.lst []]) = .ok [.tup (rowsD r)] (h ++ [.lst []]) := by simp [q_set, q_put, q_expr, q_ret, q_retN, q_ife, q_cons, q_nil, q_cst, q_bin, q_neg, q_cmp, q_and, q_or, q_not, q_eife, q_tup, q_lst, q_dic, q_ix, q_slc, q_cal, q_blt, q_enil, q_econs, q_met, q_fld, q_fset, r_for, r_lc, r_var, r_ix_ob, r_sl_ob, r_put_ob, r_len_ob, r_tup_ob, r_lst_ob, r_addl, r_app, r_it_ob, r_in_ob, r_nin_ob, r_fld, r_fset, r_isList_ob, optI, Rf.start, toD, atI_1]
      rw [r_for, i5, R.stm_ok, r_it_tup, ofO_some, R.stm_ok]
      exact e1
    simp only [List.cons_append, List.nil_append]
    rw [q_cons, a1, RS.then_nx, q_cons, a2, RS.then_nx, q_cons, a3, RS.then_nx]
    exact e2
  | .hear r, k + 1, ho => fun N h hN P hy => by
    obtain ⟨M, rfl⟩ : ∃ M, N = M + 1 := ⟨N - 1, by omega⟩
    simp only [okT] at ho
    obtain ⟨s4, s5, s6, ra, h1, e1, z1, o1, l1, P1, k1⟩ := near_loop p q ns b hb3 hb hyp hyq em hn r k ho.2 M h.length (by omega) (by have := P.lt; omega) (by obtain ⟨_, _, _, _, _, e⟩ := P; have := lk_lt e; omega) (by have := lk_lt hy; omega) (toD (.hear r)) none none none none (h ++ [.lst []]) .nil P.app (lk_app hy) lk_new (by simp only [okR]) (by simp [labs]) (by simp only [lenR]; omega)
    obtain ⟨r', h2, e2, o2, l2, P2, k2⟩ := near_tail hW L p q h.length ns b hb3 hb k hyp (by have := P.lt; omega) (by obtain ⟨_, _, _, _, _, e⟩ := P; have := lk_lt e; omega) (by have := lk_lt hy; omega) em hn cH (.tup (rowsD r)) M (by omega) s4 s5 s6 none h1 ra P1 (k1.2 y _ hyp (by have := lk_lt hy; omega) (lk_app hy)) z1 o1 l1
    refine ⟨.hear r', h2, ?_, by simp only [okT]; exact ⟨l2, o2⟩, P2, Ky.kp Kp.app (Nat.le_refl _) (k1.trans k2)⟩
    rw [callF_s (hW 21 _ (by decide) rfl) rfl]
    have eb : f__law_near.body = [.ife (.or (.cmp .eq (.ix (.var 2) (.cst (.int 0))) (.cst (.str ['e', 'n', 'd']))) (.or (.cmp .eq (.ix (.var 2) (.cst (.int 0))) (.cst (.str ['n', 'a', 'm', 'e']))) (.cmp .eq (.ix (.var 2) (.cst (.int 0))) (.cst (.str ['d', 'u', 'a', 'l'])))))
    [.ife (.cmp .eq (.cal 1 [(.var 0), (.cst (.int 6))]) (.cst (.int 0)))
      [.ret (.cal 6 [(.var 0), (.blt .list [(.var 1)]), (.cst (.int 1))])]
      [],
    .ret (.var 2)]
    [], .set 3 (.lst []), .for_ (.nm 4) .seq [(.ix (.var 2) (.cst (.int 1)))] bodyNr] ++ [.set 7 (.cal 5 [(.var 0)]),
  .ife (.and (.cmp .eq (.cal 1 [(.var 0), (.cst (.int 5))]) (.cst (.int 0))) (.cmp .nin (.var 7) (.lc [4] (.nm 4) .seq [(.var 3)] [] (.ix (.var 4) (.cst (.int 0))))))
    [.expr (.met (.var 3) "append" [(.tup [(.var 7), (.cal 4 [(.var 0), (.blt .list [(.var 1)])]), (.cal 6 [(.var 0), (.blt .list [(.var 1)]), (.cst (.int 1))])])])]
    [],
  .ife (.cmp .eq (.cal 1 [(.var 0), (.cst (.int 4))]) (.cst (.int 0)))
    [.expr (.met (.var 3) "reverse" [])]
    [],
  .ret (.tup [(.ix (.var 2) (.cst (.int 0))), (.blt .tuple [(.var 3)])])] := rfl
    have es : Rf.start f__law_near.ns [D.ob p, D.ob y, toD (.hear r)] = [some (.ob p), some (.ob y), some (toD (.hear r)), none, none, none, none, none] := rfl
    rw [eb, es]
    have a1 : evalS W L (callF W L M) none (.ife (.or (.cmp .eq (.ix (.var 2) (.cst (.int 0))) (.cst (.str ['e', 'n', 'd']))) (.or (.cmp .eq (.ix (.var 2) (.cst (.int 0))) (.cst (.str ['n', 'a', 'm', 'e']))) (.cmp .eq (.ix (.var 2) (.cst (.int 0))) (.cst (.str ['d', 'u', 'a', 'l'])))))
    [.ife (.cmp .eq (.cal 1 [(.var 0), (.cst (.int 6))]) (.cst (.int 0)))
      [.ret (.cal 6 [(.var 0), (.blt .list [(.var 1)]), (.cst (.int 1))])]
      [],
    .ret (.var 2)]
    []) [some (.ob p), some (.ob y), some (toD (.hear r)), none, none, none, none, none] h = .ok (.nx [some (.ob p), some (.ob y), some (toD (.hear r)), none, none, none, none, none]) h := by simp [q_set, q_put, q_expr, q_ret, q_retN, q_ife, q_cons, q_nil, q_cst, q_bin, q_neg, q_cmp, q_and, q_or, q_not, q_eife, q_tup, q_lst, q_dic, q_ix, q_slc, q_cal, q_blt, q_enil, q_econs, q_met, q_fld, q_fset, r_for, r_lc, r_var, r_ix_ob, r_sl_ob, r_put_ob, r_len_ob, r_tup_ob, r_lst_ob, r_addl, r_app, r_it_ob, r_in_ob, r_nin_ob, r_fld, r_fset, r_isList_ob, optI, Rf.start, toD, atI_0]
    have a2 : evalS W L (callF W L M) none (.set 3 (.lst [])) [some (.ob p), some (.ob y), some (toD (.hear r)), none, none, none, none, none] h = .ok (.nx [some (.ob p), some (.ob y), some (toD (.hear r)), some (.ob h.length), none, none, none, none]) (h ++ [.lst []]) := by simp [q_set, q_put, q_expr, q_ret, q_retN, q_ife, q_cons, q_nil, q_cst, q_bin, q_neg, q_cmp, q_and, q_or, q_not, q_eife, q_tup, q_lst, q_dic, q_ix, q_slc, q_cal, q_blt, q_enil, q_econs, q_met, q_fld, q_fset, r_for, r_lc, r_var, r_ix_ob, r_sl_ob, r_put_ob, r_len_ob, r_tup_ob, r_lst_ob, r_addl, r_app, r_it_ob, r_in_ob, r_nin_ob, r_fld, r_fset, r_isList_ob, optI, Rf.start, sizeLine]
    have a3 : evalS W L (callF W L M) none (.for_ (.nm 4) .seq [(.ix (.var 2) (.cst (.int 1)))] bodyNr) [some (.ob p), some (.ob y), some (toD (.hear r)), some (.ob h.length), none, none, none, none] (h ++ [.lst []]) = .ok (.nx [some (.ob p), some (.ob y), some (toD (.hear r)), some (.ob h.length), s4, s5, s6, none]) h1 := by
      have i5 : evalEs W (callF W L M) none [(.ix (.var 2) (.cst (.int 1)))] [some (.ob p), some (.ob y), some (toD (.hear r)), some (.ob h.length), none, none, none, none] (h ++ [.lst []]) = .ok [.tup (rowsD r)] (h ++ [.lst []]) := by simp [q_set, q_put, q_expr, q_ret, q_retN, q_ife, q_cons, q_nil, q_cst, q_bin, q_neg, q_cmp, q_and, q_or, q_not, q_eife, q_tup, q_lst, q_dic, q_ix, q_slc, q_cal, q_blt, q_enil, q_econs, q_met, q_fld, q_fset, r_for, r_lc, r_var, r_ix_ob, r_sl_ob, r_put_ob, r_len_ob, r_tup_ob, r_lst_ob, r_addl, r_app, r_it_ob, r_in_ob, r_nin_ob, r_fld, r_fset, r_isList_ob, optI, Rf.start, toD, atI_1]
      rw [r_for, i5, R.stm_ok, r_it_tup, ofO_some, R.stm_ok]
      exact e1
    simp only [List.cons_append, List.nil_append]
    rw [q_cons, a1, RS.then_nx, q_cons, a2, RS.then_nx, q_cons, a3, RS.then_nx]
    exact e2
theorem near_loop (p q : Nat) (ns : List Int) (b : Nat) (hb3 : 3 ≤ b) (hb : b ≤ 8) (hyp : y ≠ p) (hyq : y ≠ q) (em : kvs.map (·.1) = nms.map D.str) (hn : 0 < nms.length ∧ nms.length ≤ 3 ∧ ∀ s ∈ nms, okL s) : ∀ (r : TR) (k : Nat), okR nms b r k → ∀ (M z : Nat) (hM : k + 8 ≤ M) (hzp : z ≠ p) (hzq : z ≠ q) (hzy : z ≠ y) (td : D) (s4 s5 s6 s7 : Option D) (h : Hs) (ra : TR),
    PO p q ns h → h[y]? = some (.dic false false kvs) → h[z]? = some (.lst (rowsD ra)) → okR nms (b + 1) ra (k + 1) → (∀ x ∈ labs ra, x ∉ labs r) → lenR ra + lenR r ≤ b →
    ∃ (s4' s5' s6' : Option D) (ra' : TR) (h' : Hs), forI .none (fT W L (callF W L M) (.nm 4) bodyNr) (rowsD r) [some (.ob p), some (.ob y), some td, some (.ob z), s4, s5, s6, s7] h = .ok (.nx [some (.ob p), some (.ob y), some td, some (.ob z), s4', s5', s6', s7]) h' ∧
      h'[z]? = some (.lst (rowsD ra')) ∧ okR nms (b + 1) ra' (k + 1) ∧ lenR ra' ≤ b ∧ PO p q ns h' ∧ Ky p z h h'
  | .nil, k, _, M, z, hM, hzp, hzq, hzy, td, s4, s5, s6, s7, h, ra, P, hy, hz, ho, hd, hl => ⟨s4, s5, s6, ra, h, forI_nil (by trivial), hz, ho, by simp only [lenR] at hl; omega, P, Ky.refl⟩
  | .cons l pd t r, k, hr, M, z, hM, hzp, hzq, hzy, td, s4, s5, s6, s7, h, ra, P, hy, hz, ho, hd, hl => by
    simp only [okR] at hr
    simp only [lenR] at hl
    have hla : l ∉ labs ra := fun q => hd l q (by simp [labs])
    obtain ⟨a5, a6, ra1, h1, e1, z1, o1, l1, i1, P1, k1⟩ := near_row hW L p q z ns b k hb hyp hzp hzq hzy em hn M hM hr.1.1 hr.2.1 (near_ok p q ns b hb3 hb hyp hyq em hn t k hr.2.2.1) td s4 s5 s6 s7 h ra P hy hz ho hla (by omega)
    obtain ⟨b4, b5, b6, ra2, h2, e2, z2, o2, l2, P2, k2⟩ := near_loop p q ns b hb3 hb hyp hyq em hn r k hr.2.2.2 M z hM hzp hzq hzy td (some (.tup [.str l, pd, toD t])) a5 a6 s7 h1 ra1 P1 (k1.2 y _ hyp (Ne.symm hzy) hy) z1 o1 (fun x hx => by
      rcases i1 x hx with q | rfl
      · exact fun q' => hd x q (by simp [labs, q'])
      · exact hr.1.2) (by omega)
    refine ⟨b4, b5, b6, ra2, h2, ?_, z2, o2, l2, P2, k1.trans k2⟩
    rw [rowsD, forI_nx (by trivial) e1]
    exact e2
end
end
end K13
end

section
namespace K13
open PySem PySem.Spec PyProof.Rows L2 Rf
/-- the drawn table, as the laws use it -/
structure Tb (nms : List (List Char)) (kvs : List (D × D)) (tals : List T) (y p q : Nat) : Prop where
  nm : ∀ s ∈ nms, okL s
  n0 : 0 < nms.length
  n3 : nms.length ≤ 3
  em : kvs.map (·.1) = nms.map D.str
  nd : nms.Nodup
  tb : TB nms kvs
  keys : ∀ s ∈ nms, ∃ t r m, kvGet kvs (.str s) = some (toD t) ∧ Rs nms kvs t r m ∧ m ≤ 4
  tget : ∀ s t, kvGet kvs (.str s) = some (toD t) → t ∈ tals
  tok : ∀ t ∈ tals, okT nms 3 t 2
  tl : tals.length ≤ 3
  yp : y ≠ p
  yq : y ≠ q
theorem Tb.res {nms : List (List Char)} {kvs : List (D × D)} {tals : List T} {y p q : Nat} (B : Tb nms kvs tals y p q) {t : T} (ht : okT nms 5 t 5) : ∃ r m, Rs nms kvs t r m ∧ m ≤ 5 ∧ (r = t ∨ okT nms 3 r 2) := by
  have main : ∀ {r : T} {m : Nat}, Rs nms kvs t r m → m ≤ 5 → ∃ r m, Rs nms kvs t r m ∧ m ≤ 5 ∧ (r = t ∨ okT nms 3 r 2) := by
    intro r m h hm
    refine ⟨r, m, h, hm, ?_⟩
    rcases h.root B.tget with ⟨rfl, _⟩ | ⟨tt, h1, rfl | rfl⟩
    · exact .inl rfl
    · exact .inr (B.tok _ h1)
    · exact .inr (okT_dl (B.tok _ h1))
  cases t with
  | nm s =>
    simp only [okT] at ht
    obtain ⟨t', r, m, e, q, hm⟩ := B.keys s ht
    exact main (.nm e q) (by omega)
  | du s =>
    simp only [okT] at ht
    obtain ⟨t', r, m, e, q, hm⟩ := B.keys s ht
    exact main (.du e q) (by omega)
  | en => exact main (.stop rfl ht) (Nat.zero_le _)
  | say r => exact main (.stop rfl ht) (Nat.zero_le _)
  | hear r => exact main (.stop rfl ht) (Nat.zero_le _)
section
variable {nms : List (List Char)} {kvs : List (D × D)} {tals : List T} {y p q : Nat} {W : Wd} (hW : Has W) (L : Nat)
include hW
theorem pool_ok (N : Nat) (hN : 1 ≤ N) (ns : List Int) (d : D) (h : Hs) (hl : bltC W .list [d] h = .ok (.ob h.length) (h ++ [.lst (ns.map D.int)])) :
    ∃ (p q : Nat) (h' : Hs), callF W L N 2 [d] h = .ok (.ob p) h' ∧ PO p q ns h' := by
  obtain ⟨M, rfl⟩ : ∃ M, N = M + 1 := ⟨N - 1, by omega⟩
  rw [callF_s (hW 2 _ (by decide) rfl) rfl]
  refine ⟨h.length + 1, h.length, h ++ [.lst (ns.map D.int)] ++ [.lst [.int 0, .ob h.length, .int (-1)]], ?_, by omega, 0, -1, by omega, ?_, ?_⟩
  · simp [q_set, q_put, q_expr, q_ret, q_retN, q_ife, q_cons, q_nil, q_cst, q_bin, q_neg, q_cmp, q_and, q_or, q_not, q_eife, q_tup, q_lst, q_dic, q_ix, q_slc, q_cal, q_blt, q_enil, q_econs, q_met, q_fld, q_fset, r_for, r_lc, r_var, r_ix_ob, r_sl_ob, r_put_ob, r_len_ob, r_tup_ob, r_lst_ob, r_addl, r_app, r_it_ob, r_in_ob, r_nin_ob, r_fld, r_fset, r_isList_ob, optI, Rf.start, f__law_pool, hl, sizeLine]
  · have := lk_new (h := h ++ [.lst (ns.map D.int)]) (o := .lst [.int 0, .ob h.length, .int (-1)])
    simpa using this
  · exact lk_app lk_new
/-- the table drawn -/
theorem tb_ok (N : Nat) (hN : 8 ≤ N) (ns : List Int) (h : Hs) (P : PO p q ns h) :
    ∃ (y : Nat) (kvs : List (D × D)) (nms : List (List Char)) (tals : List T) (h' : Hs), callF W L N 7 [.ob p] h = .ok (.ob y) h' ∧ Tb nms kvs tals y p q ∧ h'[y]? = some (.dic false false kvs) ∧ PO p q ns h' := by
  obtain ⟨y, kvs, nms, h2, e2, hT, hI, ndn, n0, n3, hok, y2, P2, ly, hyp⟩ := table_ok hW L N p q hN ns h P
  have em : kvs.map (·.1) = nms.map D.str := by rw [hI.1, List.take_length]
  obtain ⟨tals, tl, tok, tget⟩ := hT.tals
  have keys : ∀ s ∈ nms, ∃ t r m, kvGet kvs (.str s) = some (toD t) ∧ Rs nms kvs t r m ∧ m ≤ 4 := by
    intro s hs
    obtain ⟨i, hi⟩ := List.mem_iff_getElem?.mp hs
    have hl := (List.getElem?_eq_some_iff.mp hi).1
    obtain ⟨t, r, m, a, b, c⟩ := resolves hI (nms.length - 1 - i) i s (by omega) hi
    exact ⟨t, r, m, a, b, by omega⟩
  have tl3 : tals.length ≤ 3 := by
    have := congrArg List.length em
    simp at this; omega
  have hyq : y ≠ q := by
    obtain ⟨_, _, _, _, _, e⟩ := P2
    rintro rfl
    rw [y2] at e; cases e
  exact ⟨y, kvs, nms, tals, h2, e2, ⟨hok, n0, n3, em, ndn, hT, keys, tget, tok, tl3, hyp, hyq⟩, y2, P2⟩
theorem two_ok (B : Tb nms kvs tals y p q) (N : Nat) (hN : 16 ≤ N) (ns : List Int) (h : Hs) (P : PO p q ns h) (hy : h[y]? = some (.dic false false kvs)) :
    ∃ (t1 t2 : T) (z : Nat) (h' : Hs), callF W L N 22 [.ob p, .ob y] h = .ok (.ob z) h' ∧ h'[z]? = some (.lst [toD t1, toD t2]) ∧ okT nms 3 t1 2 ∧ okT nms 4 t2 3 ∧ PO p q ns h' ∧ Kp p h h' ∧ h.length ≤ z ∧ z ≠ p := by
  obtain ⟨M, rfl⟩ : ∃ M, N = M + 1 := ⟨N - 1, by omega⟩
  rw [callF_s (hW 22 _ (by decide) rfl) rfl]
  have hn : 0 < nms.length ∧ nms.length ≤ 3 ∧ ∀ s ∈ nms, okL s := ⟨B.n0, B.n3, B.nm⟩
  have em := B.em
  have hyp := B.yp
  have N1 : NM h.length nms (h ++ [.lst (nms.map D.str)]) := ⟨lk_new, hn⟩
  obtain ⟨ta, h1, e1, o1, P1, k1, _⟩ := talk_ok hW L 2 M p q h.length ns nms (h ++ [.lst (nms.map D.str)]) (by omega) P.app N1 (by have := P.lt; omega)
  rw [show ((2 : Nat) : Int) = 2 from rfl] at e1
  have y1 := k1.2 y _ hyp (lk_app hy)
  have a1 : evalS W L (callF W L M) none (.set 2 (.cal 6 [(.var 0), (.blt .list [(.var 1)]), (.cst (.int 2))])) [some (.ob p), some (.ob y), none, none] h = .ok (.nx [some (.ob p), some (.ob y), some (toD ta), none]) h1 := by simp [q_set, q_put, q_expr, q_ret, q_retN, q_ife, q_cons, q_nil, q_cst, q_bin, q_neg, q_cmp, q_and, q_or, q_not, q_eife, q_tup, q_lst, q_dic, q_ix, q_slc, q_cal, q_blt, q_enil, q_econs, q_met, q_fld, q_fset, r_for, r_lc, r_var, r_ix_ob, r_sl_ob, r_put_ob, r_len_ob, r_tup_ob, r_lst_ob, r_addl, r_app, r_it_ob, r_in_ob, r_nin_ob, r_fld, r_fset, r_isList_ob, optI, Rf.start, hy, em, e1]
  -- the first talk
  obtain ⟨t1, h2, a2, o2, P2, k2⟩ : ∃ (t1 : T) (h2 : Hs), evalS W L (callF W L M) none (.ife (.cmp .eq (.cal 1 [(.var 0), (.cst (.int 2))]) (.cst (.int 0)))
    [.set 2 (.tup [(.cst (.str ['n', 'a', 'm', 'e'])), (.ix (.blt .list [(.var 1)]) (.cal 1 [(.var 0), (.blt .len [(.var 1)])]))])]
    []) [some (.ob p), some (.ob y), some (toD ta), none] h1 = .ok (.nx [some (.ob p), some (.ob y), some (toD t1), none]) h2 ∧ okT nms 3 t1 2 ∧ PO p q ns h2 ∧ Kp p h1 h2 := by
    obtain ⟨v, h2, e2, b1, b2, P2, k2⟩ := takeN hW L M p q (by omega) ns 2 (by decide) (by decide) h1 P1
    have y2 := k2.2 y _ hyp y1
    by_cases hv : v = 0
    · subst hv
      have kl : kvs.length = nms.length := by have := congrArg List.length em; simpa using this
      have hn1 := B.n0
      have hn3 := B.n3
      obtain ⟨v3, h3, e3, b3, b4, P3, k3⟩ := takeN hW L M p q (by omega) ns nms.length (by omega) (by omega) (h2 ++ [.lst (nms.map D.str)]) P2.app
      have l3 := k3.2 h2.length _ (by have := P2.lt; omega) (lk_new (h := h2) (o := .lst (nms.map D.str)))
      obtain ⟨x, hx, i3⟩ := atI_some (xs := nms.map D.str) b3 (by simpa using b4)
      obtain ⟨s, hs, rfl⟩ := List.mem_map.mp hx
      have y3 : (h2 ++ [MO.lst (nms.map D.str)])[y]? = some (.dic false false kvs) := lk_app y2
      refine ⟨.nm s, h3, ?_, by simp only [okT]; exact hs, P3, k2.trans (Kp.app.trans k3)⟩
      simp [q_set, q_put, q_expr, q_ret, q_retN, q_ife, q_cons, q_nil, q_cst, q_bin, q_neg, q_cmp, q_and, q_or, q_not, q_eife, q_tup, q_lst, q_dic, q_ix, q_slc, q_cal, q_blt, q_enil, q_econs, q_met, q_fld, q_fset, r_for, r_lc, r_var, r_ix_ob, r_sl_ob, r_put_ob, r_len_ob, r_tup_ob, r_lst_ob, r_addl, r_app, r_it_ob, r_in_ob, r_nin_ob, r_fld, r_fset, r_isList_ob, optI, Rf.start, e2, y2, em, y3, kl, e3, l3, i3, toD, sizeLine]
    · refine ⟨ta, h2, ?_, o1, P2, k2⟩
      simp [q_set, q_put, q_expr, q_ret, q_retN, q_ife, q_cons, q_nil, q_cst, q_bin, q_neg, q_cmp, q_and, q_or, q_not, q_eife, q_tup, q_lst, q_dic, q_ix, q_slc, q_cal, q_blt, q_enil, q_econs, q_met, q_fld, q_fset, r_for, r_lc, r_var, r_ix_ob, r_sl_ob, r_put_ob, r_len_ob, r_tup_ob, r_lst_ob, r_addl, r_app, r_it_ob, r_in_ob, r_nin_ob, r_fld, r_fset, r_isList_ob, optI, Rf.start, e2, hv]
  have y2 := k2.2 y _ hyp y1
  have kk : Kp p h h2 := Kp.app.trans (k1.trans k2)
  obtain ⟨v, h3, e3, b1, b2, P3, k3⟩ := takeN hW L M p q (by omega) ns 4 (by decide) (by decide) h2 P2
  have y3 := k3.2 y _ hyp y2
  have a3 : evalS W L (callF W L M) none (.set 3 (.cal 1 [(.var 0), (.cst (.int 4))])) [some (.ob p), some (.ob y), some (toD t1), none] h2 = .ok (.nx [some (.ob p), some (.ob y), some (toD t1), some (.int v)]) h3 := by simp [q_set, q_put, q_expr, q_ret, q_retN, q_ife, q_cons, q_nil, q_cst, q_bin, q_neg, q_cmp, q_and, q_or, q_not, q_eife, q_tup, q_lst, q_dic, q_ix, q_slc, q_cal, q_blt, q_enil, q_econs, q_met, q_fld, q_fset, r_for, r_lc, r_var, r_ix_ob, r_sl_ob, r_put_ob, r_len_ob, r_tup_ob, r_lst_ob, r_addl, r_app, r_it_ob, r_in_ob, r_nin_ob, r_fld, r_fset, r_isList_ob, optI, Rf.start, e3]
  have o5 : okT nms 5 t1 5 := (okT_mono (by omega)).1 _ _ (by omega) o2
  obtain ⟨r, m, hr, hm, hro⟩ := B.res o5
  have or3 : okT nms 3 r 2 := by
    rcases hro with rfl | q
    · exact o2
    · exact q
  obtain ⟨h4, e4, k4⟩ := lhead_ok hW L B.tb y hr M h3 false (by omega) y3
  unfold f__law_two
  show ∃ (t1 t2 : T) (z : Nat) (h' : Hs), (evalB W L (callF W L M) none _ [some (.ob p), some (.ob y), none, none] h).fin = _ ∧ _
  by_cases hv0 : v = 0
  · subst hv0
    have N3 : NM h3.length nms (h3 ++ [.lst (nms.map D.str)]) := ⟨lk_new, hn⟩
    obtain ⟨tb, h5, e5, o5', P5, k5, _⟩ := talk_ok hW L 2 M p q h3.length ns nms (h3 ++ [.lst (nms.map D.str)]) (by omega) P3.app N3 (by have := P3.lt; omega)
    rw [show ((2 : Nat) : Int) = 2 from rfl] at e5
    have kk5 : Kp p h h5 := kk.trans (k3.trans (Kp.app.trans k5))
    refine ⟨t1, tb, h5.length, h5 ++ [.lst [toD t1, toD tb]], ?_, lk_new, o2, (okT_mono (by omega)).1 _ _ (by omega) o5', P5.app, kk5.trans Kp.app, kk5.1, by have := P5.lt; omega⟩
    rw [q_cons, a1, RS.then_nx, q_cons, a2, RS.then_nx, q_cons, a3, RS.then_nx]
    simp [q_set, q_put, q_expr, q_ret, q_retN, q_ife, q_cons, q_nil, q_cst, q_bin, q_neg, q_cmp, q_and, q_or, q_not, q_eife, q_tup, q_lst, q_dic, q_ix, q_slc, q_cal, q_blt, q_enil, q_econs, q_met, q_fld, q_fset, r_for, r_lc, r_var, r_ix_ob, r_sl_ob, r_put_ob, r_len_ob, r_tup_ob, r_lst_ob, r_addl, r_app, r_it_ob, r_in_ob, r_nin_ob, r_fld, r_fset, r_isList_ob, optI, Rf.start, y3, em, e5, sizeLine]
  by_cases hv1 : v = 1
  · subst hv1
    have kk5 : Kp p h h4 := kk.trans (k3.trans k4.kp)
    have P4 : PO p q ns h4 := by
      obtain ⟨h0, a, k, hk, f1, f2⟩ := P3
      exact ⟨h0, a, k, hk, k4.2 _ _ f1, k4.2 _ _ f2⟩
    refine ⟨t1, r, h4.length, h4 ++ [.lst [toD t1, toD r]], ?_, lk_new, o2, (okT_mono (by omega)).1 _ _ (by omega) or3, P4.app, kk5.trans Kp.app, kk5.1, by have := P4.lt; omega⟩
    rw [q_cons, a1, RS.then_nx, q_cons, a2, RS.then_nx, q_cons, a3, RS.then_nx]
    simp [q_set, q_put, q_expr, q_ret, q_retN, q_ife, q_cons, q_nil, q_cst, q_bin, q_neg, q_cmp, q_and, q_or, q_not, q_eife, q_tup, q_lst, q_dic, q_ix, q_slc, q_cal, q_blt, q_enil, q_econs, q_met, q_fld, q_fset, r_for, r_lc, r_var, r_ix_ob, r_sl_ob, r_put_ob, r_len_ob, r_tup_ob, r_lst_ob, r_addl, r_app, r_it_ob, r_in_ob, r_nin_ob, r_fld, r_fset, r_isList_ob, optI, Rf.start, e4, sizeLine]
  · have P4 : PO p q ns h4 := by
      obtain ⟨h0, a, k, hk, f1, f2⟩ := P3
      exact ⟨h0, a, k, hk, k4.2 _ _ f1, k4.2 _ _ f2⟩
    obtain ⟨tn, h5, e5, o5', P5, k5⟩ := near_ok hW L p q ns 3 (by omega) (by omega) hyp B.yq em hn r 2 or3 M h4 (by omega) P4 (k4.2 _ _ y3)
    have kk5 : Kp p h h5 := kk.trans (k3.trans (k4.kp.trans k5))
    refine ⟨t1, tn, h5.length, h5 ++ [.lst [toD t1, toD tn]], ?_, lk_new, o2, o5', P5.app, kk5.trans Kp.app, kk5.1, by have := P5.lt; omega⟩
    rw [q_cons, a1, RS.then_nx, q_cons, a2, RS.then_nx, q_cons, a3, RS.then_nx]
    simp [q_set, q_put, q_expr, q_ret, q_retN, q_ife, q_cons, q_nil, q_cst, q_bin, q_neg, q_cmp, q_and, q_or, q_not, q_eife, q_tup, q_lst, q_dic, q_ix, q_slc, q_cal, q_blt, q_enil, q_econs, q_met, q_fld, q_fset, r_for, r_lc, r_var, r_ix_ob, r_sl_ob, r_put_ob, r_len_ob, r_tup_ob, r_lst_ob, r_addl, r_app, r_it_ob, r_in_ob, r_nin_ob, r_fld, r_fset, r_isList_ob, optI, Rf.start, hv0, hv1, e4, e5, sizeLine]
end
end K13
end

section
namespace K13
open PySem PySem.Spec PyProof.Rows L2 Rf
/-! ### pairs of heads -/
abbrev Pr : Type := T × T
def tg : T → List Char
  | .en => cE | .nm _ => cN | .du _ => cU | .say _ => cS | .hear _ => cH
def fnd (l : List Char) : List (List Char × D × T) → Option (D × T)
  | [] => none
  | x :: r => if x.1 = l then some x.2 else fnd l r
def payT : D → Option T
  | .tup [.str w, .str s] => if w = cN then some (.nm s) else if w = cU then some (.du s) else none
  | _ => none
theorem payT_ok {nms : List (List Char)} {p : D} (h : okP nms p) : (payT p = none ∧ (p = .non ∨ p = .str cI ∨ p = .str cB)) ∨ ∃ u, payT p = some u ∧ toD u = p ∧ ∃ s ∈ nms, u = .nm s ∨ u = .du s := by
  rcases h with rfl | rfl | rfl | ⟨s, hs, rfl | rfl⟩
  · exact .inl ⟨rfl, .inl rfl⟩
  · exact .inl ⟨rfl, .inr (.inl rfl)⟩
  · exact .inl ⟨rfl, .inr (.inr rfl)⟩
  · exact .inr ⟨.nm s, by simp [payT], rfl, s, hs, .inl rfl⟩
  · exact .inr ⟨.du s, by simp [payT], rfl, s, hs, .inr rfl⟩
abbrev cP : List Char := ['p', 'a', 'y', 'l', 'o', 'a', 'd']
abbrev cX : List Char := ['n', 'e', 'x', 't']
abbrev cM : List Char := ['m', 'i', 's', 's', 'i', 'n', 'g']
abbrev cD : List Char := ['h', 'e', 'a', 'd']
/-- a pair with the step to it -/
abbrev Ps : Type := Pr × D
section
variable (nms : List (List Char)) (kvs : List (D × D))
noncomputable def rowP (says : Bool) (g : List (List Char × D × T)) (x : List Char × D × T) : List Ps × Option D := match fnd x.1 g with
  | none => ([], some (.tup [.str cM, .str x.1]))
  | some q => match payT x.2.1, payT q.1 with
    | some u, some u' => ([((hd nms kvs u, hd nms kvs u'), .tup [.str x.1, .str cP]), (if says then (hd nms kvs q.2, hd nms kvs x.2.2) else (hd nms kvs x.2.2, hd nms kvs q.2), .tup [.str x.1, .str cX])], none)
    | _, _ => if eqv x.2.1 q.1 = true then ([(if says then (hd nms kvs q.2, hd nms kvs x.2.2) else (hd nms kvs x.2.2, hd nms kvs q.2), .tup [.str x.1, .str cX])], none) else ([], some (.tup [.str cP, .str x.1]))
noncomputable def goR (says : Bool) (g : List (List Char × D × T)) : List (List Char × D × T) → List Ps × Option D
  | [] => ([], none)
  | x :: r => match (rowP nms kvs says g x).2 with
    | some d => ((rowP nms kvs says g x).1, some d)
    | none => ((rowP nms kvs says g x).1 ++ (goR says g r).1, (goR says g r).2)
def sayB (a : T) : Bool := tg a == cS
def askT (a b : T) : T := if sayB a then b else a
def givT (a b : T) : T := if sayB a then a else b
noncomputable def visP (pr : Pr) : List Ps × Option D :=
  if tg pr.1 = tg pr.2 then goR nms kvs (sayB pr.1) (rowL (rowsT (givT pr.1 pr.2))) (rowL (rowsT (askT pr.1 pr.2))) else ([], some (.tup [.str cD]))
def Bad (pr : Pr) : Prop := (visP nms kvs pr).2 ≠ none
inductive Rch (s : Pr) : Pr → Prop where
  | refl : Rch s s
  | step {x y : Pr} {zt : D} (h : Rch s x) (nb : ¬ Bad nms kvs x) (m : (y, zt) ∈ (visP nms kvs x).1) : Rch s y
/-- nothing bad is reached -/
def Sub (s : Pr) : Prop := ∀ x, Rch nms kvs s x → ¬ Bad nms kvs x
/-- the state of a search -/
abbrev St : Type := List (Pr × D)
open Classical in
noncomputable def addS (zt : St) (pr : Pr) (od : D) : St := if pr ∈ zt.map (·.1) then zt else zt ++ [(pr, od)]
noncomputable def addsS (i : Nat) (zt : St) (ps : List Ps) : St := ps.foldl (fun zt x => addS zt x.1 (.tup [.int i, x.2])) zt
inductive Sr : St → Nat → Option (Nat × D) → St → Prop where
  | done {zt : St} : Sr zt zt.length none zt
  | bad {zt : St} {i : Nat} {pr : Pr} {od d : D} (e : zt[i]? = some (pr, od)) (b : (visP nms kvs pr).2 = some d) : Sr zt i (some (i, d)) (addsS i zt (visP nms kvs pr).1)
  | step {zt zt' : St} {i : Nat} {pr : Pr} {od : D} {res : Option (Nat × D)} (e : zt[i]? = some (pr, od)) (b : (visP nms kvs pr).2 = none) (h : Sr (addsS i zt (visP nms kvs pr).1) (i + 1) res zt') : Sr zt i res zt'
variable {nms kvs}
theorem addS_pre (zt : St) (pr : Pr) (od : D) : ∃ b, addS zt pr od = zt ++ b := by
  unfold addS
  split
  · exact ⟨[], by simp⟩
  · exact ⟨_, rfl⟩
theorem addS_mem (zt : St) (pr : Pr) (od : D) : pr ∈ (addS zt pr od).map (·.1) := by
  unfold addS
  split
  · assumption
  · simp
theorem addS_from (zt : St) (pr : Pr) (od : D) : ∀ x ∈ (addS zt pr od).map (·.1), x ∈ zt.map (·.1) ∨ x = pr := by
  intro x hx
  unfold addS at hx
  split at hx
  · exact .inl hx
  · simpa using hx
theorem addsS_pre (i : Nat) : ∀ (ps : List Ps) (zt : St), ∃ b, addsS i zt ps = zt ++ b
  | [], zt => ⟨[], by simp [addsS]⟩
  | x :: ps, zt => by
    obtain ⟨b, e⟩ := addS_pre zt x.1 (.tup [.int i, x.2])
    obtain ⟨b', e'⟩ := addsS_pre i ps (addS zt x.1 (.tup [.int i, x.2]))
    refine ⟨b ++ b', ?_⟩
    show addsS i (addS zt x.1 (.tup [.int i, x.2])) ps = _
    rw [e', e, List.append_assoc]
theorem addsS_mem (i : Nat) : ∀ (ps : List Ps) (zt : St), (∀ x ∈ ps, x.1 ∈ (addsS i zt ps).map (·.1)) ∧ ∀ x ∈ (addsS i zt ps).map (·.1), x ∈ zt.map (·.1) ∨ ∃ s, (x, s) ∈ ps
  | [], zt => ⟨by simp, fun x hx => .inl hx⟩
  | y :: ps, zt => by
    obtain ⟨a, b⟩ := addsS_mem i ps (addS zt y.1 (.tup [.int i, y.2]))
    have e : addsS i zt (y :: ps) = addsS i (addS zt y.1 (.tup [.int i, y.2])) ps := rfl
    rw [e]
    refine ⟨fun x hx => ?_, fun x hx => ?_⟩
    · rcases List.mem_cons.mp hx with rfl | hx
      · obtain ⟨c, q⟩ := addsS_pre i ps (addS zt x.1 (.tup [.int i, x.2]))
        rw [q, List.map_append]
        exact List.mem_append_left _ (addS_mem zt x.1 _)
      · exact a x hx
    · rcases b x hx with h | ⟨s, h⟩
      · rcases addS_from zt y.1 _ x h with h | rfl
        · exact .inl h
        · exact .inr ⟨y.2, List.mem_cons_self⟩
      · exact .inr ⟨s, List.mem_cons_of_mem _ h⟩
theorem addsS_keep {i j : Nat} {ps : List Ps} {zt : St} {x : Pr × D} (h : zt[j]? = some x) : (addsS i zt ps)[j]? = some x := by
  obtain ⟨b, e⟩ := addsS_pre i ps zt
  rw [e, List.getElem?_append_left (List.getElem?_eq_some_iff.mp h).1]; exact h
/-- what the search tells -/
theorem Sr.tells {s : Pr} {zt zt' : St} {i : Nat} {res : Option (Nat × D)} (h : Sr nms kvs zt i res zt') (h0 : s ∈ zt.map (·.1)) (hr : ∀ x ∈ zt.map (·.1), Rch nms kvs s x)
    (hc : ∀ (j : Nat) (x : Pr × D), j < i → zt[j]? = some x → ¬ Bad nms kvs x.1 ∧ ∀ y ∈ (visP nms kvs x.1).1, y.1 ∈ zt.map (·.1)) : (res = none ↔ Sub nms kvs s) := by
  induction h with
  | @done zt =>
    refine ⟨fun _ x hx => ?_, fun _ => rfl⟩
    have all : ∀ x, Rch nms kvs s x → x ∈ zt.map (·.1) := by
      intro x hx
      induction hx with
      | refl => exact h0
      | step h nb m ih =>
        obtain ⟨p, hp, e⟩ := List.mem_map.mp ih
        obtain ⟨j, hj⟩ := List.mem_iff_getElem?.mp hp
        have := (hc j p (List.getElem?_eq_some_iff.mp hj).1 hj).2
        rw [e] at this
        exact this _ m
    obtain ⟨p, hp, e⟩ := List.mem_map.mp (all x hx)
    obtain ⟨j, hj⟩ := List.mem_iff_getElem?.mp hp
    have := (hc j p (List.getElem?_eq_some_iff.mp hj).1 hj).1
    rw [e] at this
    exact this
  | @bad zt i pr od d e b =>
    refine ⟨fun h => (by cases h), fun h => ?_⟩
    have := hr pr (List.mem_map.mpr ⟨_, List.mem_of_getElem? e, rfl⟩)
    exact absurd (show Bad nms kvs pr from by unfold Bad; rw [b]; simp) (h pr this)
  | @step zt zt' i pr od res e b h ih =>
    have nb : ¬ Bad nms kvs pr := fun q => q b
    have hp := hr pr (List.mem_map.mpr ⟨_, List.mem_of_getElem? e, rfl⟩)
    obtain ⟨m1, m2⟩ := addsS_mem i (visP nms kvs pr).1 zt
    obtain ⟨c, q⟩ := addsS_pre i (visP nms kvs pr).1 zt
    refine ih ?_ ?_ ?_
    · rw [q, List.map_append]; exact List.mem_append_left _ h0
    · intro x hx
      rcases m2 x hx with h | ⟨s', h⟩
      · exact hr x h
      · exact .step hp nb h
    · intro j x hj hx
      by_cases hji : j < i
      · have hji' : j < zt.length := Nat.lt_trans hji (List.getElem?_eq_some_iff.mp e).1
        rw [q, List.getElem?_append_left hji'] at hx
        obtain ⟨a1, a2⟩ := hc j x hji hx
        refine ⟨a1, fun y hy => ?_⟩
        rw [q, List.map_append]; exact List.mem_append_left _ (a2 y hy)
      · obtain rfl : j = i := by omega
        rw [q, List.getElem?_append_left (List.getElem?_eq_some_iff.mp e).1, e] at hx
        cases hx
        exact ⟨nb, m1⟩
end
/-! ### the object of pairs -/
def kd (x : Nat × Nat) : D × D := (.tup [.int x.1, .int x.2], .bl true)
def rd2 (x : Nat × Nat) : D := .tup [.int x.1, .int x.2]
theorem kd_any (rc : List (Nat × Nat)) (i j : Nat) : ((rc.map kd).any fun p => eqv p.1 (rd2 (i, j))) = decide ((i, j) ∈ rc) := by
  rw [Bool.eq_iff_iff, List.any_eq_true, decide_eq_true_eq]
  constructor
  · rintro ⟨p, hp, e⟩
    obtain ⟨x, hx, rfl⟩ := List.mem_map.mp hp
    simp only [kd, rd2, eqv, eqvs, Bool.and_true, Bool.and_eq_true, beq_iff_eq] at e
    obtain ⟨e1, e2⟩ := e
    have : x = (i, j) := by
      obtain ⟨a, b⟩ := x
      simp only [Prod.mk.injEq]
      exact ⟨by exact_mod_cast e1, by exact_mod_cast e2⟩
    rw [← this]; exact hx
  · intro h
    exact ⟨kd (i, j), List.mem_map_of_mem h, by simp [kd, rd2, eqv, eqvs]⟩
theorem kd_get (rc : List (Nat × Nat)) (i j : Nat) : (kvGet (rc.map kd) (rd2 (i, j))).isSome = decide ((i, j) ∈ rc) := by
  rw [← kd_any]
  induction rc with
  | nil => rfl
  | cons x rc ih =>
    simp only [List.map_cons, List.any_cons]
    unfold kvGet
    by_cases h : eqv (kd x).1 (rd2 (i, j)) = true
    · simp [kd] at h ⊢; simp [h]
    · have h' : eqv (kd x).1 (rd2 (i, j)) = false := by simpa using h
      simp only [kd] at h' ⊢
      simp only [h', Bool.false_eq_true, if_false, Bool.false_or]
      exact ih
theorem kd_ok (rc : List (Nat × Nat)) (i j : Nat) : okK true (rc.map kd) (rd2 (i, j)) = true := by
  simp only [Rf.okK, if_true, Bool.and_eq_true, List.all_eq_true]
  refine ⟨by simp [rd2, isT, isK], fun x hx => ?_⟩
  obtain ⟨y, _, rfl⟩ := List.mem_map.mp hx
  simp [kd, isT, isK]
theorem kd_put (rc : List (Nat × Nat)) (i j : Nat) (h : (i, j) ∉ rc) : kvPut (rc.map kd) (rd2 (i, j)) (.bl true) = (rc ++ [(i, j)]).map kd := by
  unfold kvPut
  rw [kd_any, decide_eq_false h]
  simp [kd, rd2]
end K13
end

section
namespace K13
open PySem PySem.Spec PyProof.Rows L2 Rf
/-- what stood before stays -/
def Kn (b : Nat) (h h' : Hs) : Prop := h.length ≤ h'.length ∧ ∀ (i : Nat) (mo : MO), i < b → h[i]? = some mo → h'[i]? = some mo
theorem Kn.refl {b : Nat} {h : Hs} : Kn b h h := ⟨Nat.le_refl _, fun _ _ _ e => e⟩
theorem Kn.trans {b : Nat} {h h1 h2 : Hs} (a : Kn b h h1) (c : Kn b h1 h2) : Kn b h h2 := ⟨Nat.le_trans a.1 c.1, fun i mo hi e => c.2 i mo hi (a.2 i mo hi e)⟩
theorem Ky.kn {p y b : Nat} {h h' : Hs} (k : Ky p y h h') (hp : b ≤ p) (hy : b ≤ y) : Kn b h h' := ⟨k.1, fun i mo hi e => k.2 i mo (by omega) (by omega) e⟩
theorem Kx.kn {b : Nat} {h h' : Hs} (k : Kx h h') : Kn b h h' := ⟨k.1, fun i mo _ e => k.2 i mo e⟩
theorem Kn.set {b n : Nat} {h : Hs} {o : MO} (hn : b ≤ n) : Kn b h (h.set n o) := ⟨by simp, fun i mo hi e => by rw [List.getElem?_set_ne (by omega)]; exact e⟩
/-- only the objects of a list may change -/
def Ko (own : List Nat) (h h' : Hs) : Prop := h.length ≤ h'.length ∧ ∀ (i : Nat) (mo : MO), i ∉ own → h[i]? = some mo → h'[i]? = some mo
theorem Ko.refl {own : List Nat} {h : Hs} : Ko own h h := ⟨Nat.le_refl _, fun _ _ _ e => e⟩
theorem Ko.trans {own : List Nat} {h h1 h2 : Hs} (a : Ko own h h1) (c : Ko own h1 h2) : Ko own h h2 := ⟨Nat.le_trans a.1 c.1, fun i mo hi e => c.2 i mo hi (a.2 i mo hi e)⟩
theorem Ko.mono {own own' : List Nat} {h h' : Hs} (k : Ko own h h') (s : ∀ i ∈ own, i ∈ own') : Ko own' h h' := ⟨k.1, fun i mo hi e => k.2 i mo (fun q => hi (s i q)) e⟩
theorem Ky.ko {p y : Nat} {own : List Nat} {h h' : Hs} (k : Ky p y h h') (hp : p ∈ own) (hy : y ∈ own) : Ko own h h' := ⟨k.1, fun i mo hi e => k.2 i mo (fun q => hi (q ▸ hp)) (fun q => hi (q ▸ hy)) e⟩
theorem Kx.ko {own : List Nat} {h h' : Hs} (k : Kx h h') : Ko own h h' := ⟨k.1, fun i mo _ e => k.2 i mo e⟩
theorem Ko.set {own : List Nat} {n : Nat} {h : Hs} {o : MO} (hn : n ∈ own) : Ko own h (h.set n o) := ⟨by simp, fun i mo hi e => by rw [List.getElem?_set_ne (fun q => hi (by rw [← q]; exact hn))]; exact e⟩
theorem Ko.kn {own : List Nat} {b : Nat} {h h' : Hs} (k : Ko own h h') (hb : ∀ i ∈ own, b ≤ i) : Kn b h h' := ⟨k.1, fun i mo hi e => k.2 i mo (fun q => by have := hb i q; omega) e⟩
/-- objects that did not stand before -/
theorem Ko.new {own own' : List Nat} {h h1 h2 : Hs} (a : Ko own h h1) (c : Ko own' h1 h2) (s : ∀ i ∈ own', i ∈ own ∨ h.length ≤ i) : Ko own h h2 := ⟨Nat.le_trans a.1 c.1, fun i mo hi e => c.2 i mo (fun q => by
  rcases s i q with z | z
  · exact hi z
  · have := lk_lt e; omega) (a.2 i mo hi e)⟩
theorem Kn.kx {h h1 h2 : Hs} (a : Kx h h1) (c : Kn h.length h1 h2) : Kx h h2 := ⟨Nat.le_trans a.1 c.1, fun i mo e => c.2 i mo (lk_lt e) (a.2 i mo e)⟩
structure PD (nms : List (List Char)) (kvs : List (D × D)) (V : List T) (b0 pb o y nd m kn rc og vi : Nat) (met : List T) (zt : St) (rl : List (Nat × Nat)) (h : Hs) : Prop where
  ob : h[pb]? = some (.ins 1 [("_heads", .ob o), ("_known", .ob kn), ("_reached", .ob rc), ("_origins", .ob og), ("_visited", .int vi)])
  H : HD nms kvs V o y nd m met h
  kb : h[kn]? = some (.dic false true (rl.map kd))
  rb : h[rc]? = some (.lst (rl.map rd2))
  gb : h[og]? = some (.lst (zt.map (·.2)))
  ln : rl.length = zt.length
  rel : ∀ (k : Nat) (x : Nat × Nat), rl[k]? = some x → ∃ z, zt[k]? = some z ∧ met[x.1]? = some z.1.1 ∧ met[x.2]? = some z.1.2
  un : rl.Nodup
  uz : (zt.map (·.1)).Nodup
  vv : ∀ z ∈ zt, (z.1.1 ∈ V ∧ isN z.1.1 = false) ∧ z.1.2 ∈ V ∧ isN z.1.2 = false
  dis : ([pb, o, y, nd, m, kn, rc, og] : List Nat).Nodup
  lo : b0 ≤ pb ∧ b0 ≤ o ∧ b0 ≤ nd ∧ b0 ≤ m ∧ b0 ≤ kn ∧ b0 ≤ rc ∧ b0 ≤ og
def HasP (W : Wd) : Prop := W.cls[1]? = some ⟨[("begin", 30), ("reach", 31), ("heads_at", 32), ("first_wrong", 33), ("_steps_to", 34)], some 29, ["_heads", "_known", "_reached", "_origins", "_visited"]⟩
section
variable {nms : List (List Char)} {kvs : List (D × D)} {V : List T} {b0 pb o y nd m kn rc og vi : Nat} {met : List T} {zt : St} {rl : List (Nat × Nat)} {h h' : Hs}
theorem pairs_len (U : Uni nms kvs V) {l : List Pr} (un : l.Nodup) (hv : ∀ z ∈ l, z.1 ∈ V ∧ z.2 ∈ V) : l.length ≤ 16000000 := by
  have a : ∀ (A B : List T), (A.flatMap fun a => B.map fun b => ((a, b) : Pr)).length = A.length * B.length := by
    intro A B
    induction A with
    | nil => simp
    | cons x A ih => simp only [List.flatMap_cons, List.length_append, List.length_map, ih, List.length_cons, Nat.add_mul, Nat.one_mul]; omega
  have c := nodup_len (u := V.flatMap fun a => V.map fun b => ((a, b) : Pr)) un fun z hz => by
    obtain ⟨h1, h2⟩ := hv z hz
    exact List.mem_flatMap.mpr ⟨z.1, h1, List.mem_map.mpr ⟨z.2, h2, rfl⟩⟩
  rw [a] at c
  exact Nat.le_trans c (Nat.mul_le_mul U.ln U.ln)
theorem PD.len (P : PD nms kvs V b0 pb o y nd m kn rc og vi met zt rl h) (U : Uni nms kvs V) : zt.length ≤ 16000000 := by
  have := pairs_len U P.uz fun z hz => by
    obtain ⟨w, hw, rfl⟩ := List.mem_map.mp hz
    exact ⟨(P.vv w hw).1.1, (P.vv w hw).2.1⟩
  rw [List.length_map] at this
  exact this
theorem PD.heads {met' : List T} (P : PD nms kvs V b0 pb o y nd m kn rc og vi met zt rl h) (H' : HD nms kvs V o y nd m met' h') (k : Ky nd m h h') (pre : ∃ b, met' = met ++ b) : PD nms kvs V b0 pb o y nd m kn rc og vi met' zt rl h' := by
  have dis := P.dis
  simp at dis
  obtain ⟨⟨_, _, _, _, _, _, _⟩, ⟨_, _, _, _, _, _⟩, ⟨_, _, _, _, _⟩, ⟨_, _, _, _⟩, ⟨_, _, _⟩, ⟨_, _⟩, _⟩ := dis
  refine ⟨k.2 _ _ (by first | assumption | exact Ne.symm (by assumption)) (by first | assumption | exact Ne.symm (by assumption)) P.ob, H', k.2 _ _ (by first | assumption | exact Ne.symm (by assumption)) (by first | assumption | exact Ne.symm (by assumption)) P.kb, k.2 _ _ (by first | assumption | exact Ne.symm (by assumption)) (by first | assumption | exact Ne.symm (by assumption)) P.rb, k.2 _ _ (by first | assumption | exact Ne.symm (by assumption)) (by first | assumption | exact Ne.symm (by assumption)) P.gb, P.ln, fun j x hx => ?_, P.un, P.uz, P.vv, P.dis, P.lo⟩
  obtain ⟨z, e1, e2, e3⟩ := P.rel j x hx
  obtain ⟨b, rfl⟩ := pre
  exact ⟨z, e1, by rw [List.getElem?_append_left (List.getElem?_eq_some_iff.mp e2).1]; exact e2, by rw [List.getElem?_append_left (List.getElem?_eq_some_iff.mp e3).1]; exact e3⟩
theorem PD.kx (P : PD nms kvs V b0 pb o y nd m kn rc og vi met zt rl h) (k : Kx h h') : PD nms kvs V b0 pb o y nd m kn rc og vi met zt rl h' :=
  P.heads (P.H.kx k) k.ky ⟨[], by simp⟩
/-- stays as long as its own objects stay -/
theorem PD.keep (P : PD nms kvs V b0 pb o y nd m kn rc og vi met zt rl h) (k : ∀ (n : Nat) (mo : MO), n ∈ ([pb, o, y, nd, m, kn, rc, og] : List Nat) → h[n]? = some mo → h'[n]? = some mo) : PD nms kvs V b0 pb o y nd m kn rc og vi met zt rl h' :=
  ⟨k _ _ (by simp) P.ob, P.H.keep fun n mo hn e => k n mo (by rcases hn with rfl | rfl | rfl | rfl <;> simp) e, k _ _ (by simp) P.kb, k _ _ (by simp) P.rb, k _ _ (by simp) P.gb, P.ln, P.rel, P.un, P.uz, P.vv, P.dis, P.lo⟩
/-- the count of those visited -/
theorem PD.vis (P : PD nms kvs V b0 pb o y nd m kn rc og vi met zt rl h) (v : Nat) : PD nms kvs V b0 pb o y nd m kn rc og v met zt rl (h.set pb (.ins 1 [("_heads", .ob o), ("_known", .ob kn), ("_reached", .ob rc), ("_origins", .ob og), ("_visited", .int v)])) := by
  have dis := P.dis
  simp at dis
  obtain ⟨⟨_, _, _, _, _, _, _⟩, _⟩ := dis
  have kp : ∀ (n : Nat) (mo : MO), n ≠ pb → h[n]? = some mo → (h.set pb (.ins 1 [("_heads", .ob o), ("_known", .ob kn), ("_reached", .ob rc), ("_origins", .ob og), ("_visited", .int v)]))[n]? = some mo := fun n mo hn e => by rw [List.getElem?_set_ne (Ne.symm hn)]; exact e
  exact ⟨by simp [lk_lt P.ob], P.H.keep fun n mo hn e => kp n mo (by rcases hn with rfl | rfl | rfl | rfl <;> exact Ne.symm (by assumption)) e, kp _ _ (Ne.symm (by assumption)) P.kb, kp _ _ (Ne.symm (by assumption)) P.rb, kp _ _ (Ne.symm (by assumption)) P.gb, P.ln, P.rel, P.un, P.uz, P.vv, P.dis, P.lo⟩
theorem PD.known (P : PD nms kvs V b0 pb o y nd m kn rc og vi met zt rl h) {i j : Nat} {a b : T} (hi : met[i]? = some a) (hj : met[j]? = some b) : (i, j) ∈ rl ↔ (a, b) ∈ zt.map (·.1) := by
  constructor
  · intro hm
    obtain ⟨k, hk⟩ := List.mem_iff_getElem?.mp hm
    obtain ⟨z, e1, e2, e3⟩ := P.rel k _ hk
    simp only at e2 e3
    rw [hi] at e2; rw [hj] at e3
    refine List.mem_map.mpr ⟨z, List.mem_of_getElem? e1, ?_⟩
    rw [Option.some.inj e2, Option.some.inj e3]
  · intro hm
    obtain ⟨z, hz, e⟩ := List.mem_map.mp hm
    obtain ⟨k, hk⟩ := List.mem_iff_getElem?.mp hz
    have hkl : k < rl.length := by rw [P.ln]; exact (List.getElem?_eq_some_iff.mp hk).1
    obtain ⟨x, hx⟩ : ∃ x, rl[k]? = some x := ⟨rl[k], by simp [hkl]⟩
    obtain ⟨z', e1, e2, e3⟩ := P.rel k x hx
    rw [hk] at e1; cases e1
    rw [e] at e2 e3
    have u1 := (List.getElem?_inj (List.getElem?_eq_some_iff.mp e2).1 P.H.un).mp (e2.trans hi.symm)
    have u2 := (List.getElem?_inj (List.getElem?_eq_some_iff.mp e3).1 P.H.un).mp (e3.trans hj.symm)
    have : x = (i, j) := by obtain ⟨x1, x2⟩ := x; simp only at u1 u2; rw [u1, u2]
    rw [← this]; exact List.mem_of_getElem? hx
variable {W : Wd} (hW : Has W) (hC : HasC W) (hP : HasP W) (L : Nat)
theorem hasF_p (hP : HasP W) : hasF W.cls 1 "_heads" = true ∧ hasF W.cls 1 "_known" = true ∧ hasF W.cls 1 "_reached" = true ∧ hasF W.cls 1 "_origins" = true ∧ hasF W.cls 1 "_visited" = true := by
  unfold hasF
  rw [hP]
  exact ⟨by decide, by decide, by decide, by decide, by decide⟩
include hP hC hW
theorem reach_ok (U : Uni nms kvs V) (P : PD nms kvs V b0 pb o y nd m kn rc og vi met zt rl h) (N : Nat) (hN : 14 ≤ N) (hL : 10 ≤ L) {t u : T} (ht : t ∈ V) (hu : u ∈ V) (d3 d4 : D) :
    ∃ (met' : List T) (rl' : List (Nat × Nat)) (h' : Hs), callF W L N 31 [.ob pb, toD t, toD u, d3, d4] h = .ok .non h' ∧ PD nms kvs V b0 pb o y nd m kn rc og vi met' (addS zt (hd nms kvs t, hd nms kvs u) (.tup [d3, d4])) rl' h' ∧ Ko [pb, nd, m, kn, rc, og] h h' := by
  obtain ⟨M, rfl⟩ : ∃ M, N = M + 1 := ⟨N - 1, by omega⟩
  rw [callF_s (hW 31 _ (by decide) rfl) rfl]
  obtain ⟨f1, f2, f3, f4, f5⟩ := hasF_p hP
  obtain ⟨k1, hr1, _, hv1, hn1⟩ := U.hd ht
  obtain ⟨k2, hr2, _, hv2, hn2⟩ := U.hd hu
  obtain ⟨i, met1, h1, e1, i1, q1, H1, y1⟩ := number_of_ok hW hC L U P.H M (by omega) hL ht hr1
  have pre1 : ∃ b, met1 = met ++ b := by
    rcases q1 with ⟨_, q⟩ | ⟨_, q⟩
    · exact ⟨[], by simp [q]⟩
    · exact ⟨_, q⟩
  have P1 := P.heads H1 y1 pre1
  obtain ⟨j, met2, h2, e2, j2, q2, H2, y2⟩ := number_of_ok hW hC L U P1.H M (by omega) hL hu hr2
  have pre2 : ∃ b, met2 = met1 ++ b := by
    rcases q2 with ⟨_, q⟩ | ⟨_, q⟩
    · exact ⟨[], by simp [q]⟩
    · exact ⟨_, q⟩
  have P2 := P1.heads H2 y2 pre2
  have i2 : met2[i]? = some (hd nms kvs t) := by
    obtain ⟨b, rfl⟩ := pre2
    rw [List.getElem?_append_left (List.getElem?_eq_some_iff.mp i1).1]; exact i1
  have kk : Ko [pb, nd, m, kn, rc, og] h h2 := (y1.ko (by simp) (by simp)).trans (y2.ko (by simp) (by simp))
  have g0 := P.ob
  have g1 := P1.ob
  have g2 := P2.ob
  have es : Rf.start f_Pairs_reach.ns [D.ob pb, toD t, toD u, d3, d4] = [some (.ob pb), some (toD t), some (toD u), some d3, some d4, none] := rfl
  rw [es]
  unfold f_Pairs_reach
  have s1 : evalS W L (callF W L M) none (.set 5 (.tup [(.met (.fld (.var 0) "_heads") "number_of" [(.var 1)]), (.met (.fld (.var 0) "_heads") "number_of" [(.var 2)])])) [some (.ob pb), some (toD t), some (toD u), some d3, some d4, none] h = .ok (.nx [some (.ob pb), some (toD t), some (toD u), some d3, some d4, some (rd2 (i, j))]) h2 := by
    simp [q_set, q_put, q_expr, q_ret, q_retN, q_ife, q_cons, q_nil, q_cst, q_bin, q_neg, q_cmp, q_and, q_or, q_not, q_eife, q_tup, q_lst, q_dic, q_ix, q_slc, q_cal, q_blt, q_enil, q_econs, q_met, q_fld, q_fset, r_for, r_lc, r_var, r_ix_ob, r_sl_ob, r_put_ob, r_len_ob, r_tup_ob, r_lst_ob, r_addl, r_app, r_it_ob, r_in_ob, r_nin_ob, r_fld, r_fset, r_isList_ob, optI, Rf.start, g0, f1, List.lookup, met_no hW hC P.H, e1, g1, met_no hW hC P1.H, e2, rd2, sizeLine]
  rw [q_cons, s1, RS.then_nx]
  have kb := P2.kb
  have ko := kd_ok rl i j
  have kg := kd_get rl i j
  have kw := P2.known i2 j2
  have dis := P.dis
  simp at dis
  obtain ⟨⟨_, _, _, _, _, _, _⟩, ⟨_, _, _, _, _, _⟩, ⟨_, _, _, _, _⟩, ⟨_, _, _, _⟩, ⟨_, _, _⟩, ⟨_, _⟩, _⟩ := dis
  by_cases hm : (i, j) ∈ rl
  · have hm' := kw.mp hm
    refine ⟨met2, rl, h2, ?_, ?_, kk⟩
    · rw [decide_eq_true hm] at kg
      simp [q_set, q_put, q_expr, q_ret, q_retN, q_ife, q_cons, q_nil, q_cst, q_bin, q_neg, q_cmp, q_and, q_or, q_not, q_eife, q_tup, q_lst, q_dic, q_ix, q_slc, q_cal, q_blt, q_enil, q_econs, q_met, q_fld, q_fset, r_for, r_lc, r_var, r_ix_ob, r_sl_ob, r_put_ob, r_len_ob, r_tup_ob, r_lst_ob, r_addl, r_app, r_it_ob, r_in_ob, r_nin_ob, r_fld, r_fset, r_isList_ob, optI, Rf.start, g2, f2, List.lookup, kb, ko, kg]
    · unfold addS
      rw [if_pos hm']
      exact P2
  · have hm' : (hd nms kvs t, hd nms kvs u) ∉ zt.map (·.1) := fun q => hm (kw.mpr q)
    have rb := P2.rb
    have gb := P2.gb
    have lz := P2.len U
    have lr := P2.ln
    have kl := lk_lt kb
    have rll := lk_lt rb
    have gl := lk_lt gb
    have z1 : rl.length < 16777216 := by omega
    have z2 : zt.length < 16777216 := by omega
    rw [decide_eq_false hm] at kg
    have kp := kd_put rl i j hm
    obtain ⟨ha, eha⟩ : ∃ ha, ha = h2.set kn (.dic false true ((rl ++ [(i, j)]).map kd)) := ⟨_, rfl⟩
    obtain ⟨hb, ehb⟩ : ∃ hb, hb = ha.set rc (.lst ((rl ++ [(i, j)]).map rd2)) := ⟨_, rfl⟩
    obtain ⟨hc, ehc⟩ : ∃ hc, hc = hb.set og (.lst ((zt ++ [((hd nms kvs t, hd nms kvs u), D.tup [d3, d4])]).map (·.2))) := ⟨_, rfl⟩
    have ga : ∀ (n : Nat) (mo : MO), n ≠ kn → h2[n]? = some mo → ha[n]? = some mo := fun n mo hn e => by rw [eha, List.getElem?_set_ne (Ne.symm hn)]; exact e
    have gb' : ∀ (n : Nat) (mo : MO), n ≠ rc → ha[n]? = some mo → hb[n]? = some mo := fun n mo hn e => by rw [ehb, List.getElem?_set_ne (Ne.symm hn)]; exact e
    have gc : ∀ (n : Nat) (mo : MO), n ≠ og → hb[n]? = some mo → hc[n]? = some mo := fun n mo hn e => by rw [ehc, List.getElem?_set_ne (Ne.symm hn)]; exact e
    have all : ∀ (n : Nat) (mo : MO), n ≠ kn → n ≠ rc → n ≠ og → h2[n]? = some mo → hc[n]? = some mo := fun n mo a b c e => gc n mo c (gb' n mo b (ga n mo a e))
    have oa := ga _ _ (by first | assumption | exact Ne.symm (by assumption)) g2
    have ra := ga _ _ (by first | assumption | exact Ne.symm (by assumption)) rb
    have ob' := gb' _ _ (by first | assumption | exact Ne.symm (by assumption)) oa
    have ob2 := gb' _ _ (by first | assumption | exact Ne.symm (by assumption)) (ga _ _ (by first | assumption | exact Ne.symm (by assumption)) gb)
    refine ⟨met2, rl ++ [(i, j)], hc, ?_, ?_, kk.trans ?_⟩
    · have a1 : evalS W L (callF W L M) none (.put (.fld (.var 0) "_known") (.var 5) (.cst (.bl true))) [some (.ob pb), some (toD t), some (toD u), some d3, some d4, some (rd2 (i, j))] h2 = .ok (.nx [some (.ob pb), some (toD t), some (toD u), some d3, some d4, some (rd2 (i, j))]) ha := by
        rw [eha]
        simp [q_set, q_put, q_expr, q_ret, q_retN, q_ife, q_cons, q_nil, q_cst, q_bin, q_neg, q_cmp, q_and, q_or, q_not, q_eife, q_tup, q_lst, q_dic, q_ix, q_slc, q_cal, q_blt, q_enil, q_econs, q_met, q_fld, q_fset, r_for, r_lc, r_var, r_ix_ob, r_sl_ob, r_put_ob, r_len_ob, r_tup_ob, r_lst_ob, r_addl, r_app, r_it_ob, r_in_ob, r_nin_ob, r_fld, r_fset, r_isList_ob, optI, Rf.start, g2, f2, List.lookup, kb, ko, z1, kp, sizeLine]
      have a2 : evalS W L (callF W L M) none (.expr (.met (.fld (.var 0) "_reached") "append" [(.var 5)])) [some (.ob pb), some (toD t), some (toD u), some d3, some d4, some (rd2 (i, j))] ha = .ok (.nx [some (.ob pb), some (toD t), some (toD u), some d3, some d4, some (rd2 (i, j))]) hb := by
        rw [ehb]
        simp [q_set, q_put, q_expr, q_ret, q_retN, q_ife, q_cons, q_nil, q_cst, q_bin, q_neg, q_cmp, q_and, q_or, q_not, q_eife, q_tup, q_lst, q_dic, q_ix, q_slc, q_cal, q_blt, q_enil, q_econs, q_met, q_fld, q_fset, r_for, r_lc, r_var, r_ix_ob, r_sl_ob, r_put_ob, r_len_ob, r_tup_ob, r_lst_ob, r_addl, r_app, r_it_ob, r_in_ob, r_nin_ob, r_fld, r_fset, r_isList_ob, optI, Rf.start, oa, f3, List.lookup, r_metapp ra, ra, z1, sizeLine]
      have a3 : evalS W L (callF W L M) none (.expr (.met (.fld (.var 0) "_origins") "append" [(.tup [(.var 3), (.var 4)])])) [some (.ob pb), some (toD t), some (toD u), some d3, some d4, some (rd2 (i, j))] hb = .ok (.nx [some (.ob pb), some (toD t), some (toD u), some d3, some d4, some (rd2 (i, j))]) hc := by
        rw [ehc]
        simp [q_set, q_put, q_expr, q_ret, q_retN, q_ife, q_cons, q_nil, q_cst, q_bin, q_neg, q_cmp, q_and, q_or, q_not, q_eife, q_tup, q_lst, q_dic, q_ix, q_slc, q_cal, q_blt, q_enil, q_econs, q_met, q_fld, q_fset, r_for, r_lc, r_var, r_ix_ob, r_sl_ob, r_put_ob, r_len_ob, r_tup_ob, r_lst_ob, r_addl, r_app, r_it_ob, r_in_ob, r_nin_ob, r_fld, r_fset, r_isList_ob, optI, Rf.start, ob', f4, List.lookup, r_metapp ob2, ob2, z2, sizeLine]
      have c1 : evalE W (callF W L M) none (.cmp .nin (.var 5) (.fld (.var 0) "_known")) [some (.ob pb), some (toD t), some (toD u), some d3, some d4, some (rd2 (i, j))] h2 = .ok (.bl true) h2 := by
        simp [q_set, q_put, q_expr, q_ret, q_retN, q_ife, q_cons, q_nil, q_cst, q_bin, q_neg, q_cmp, q_and, q_or, q_not, q_eife, q_tup, q_lst, q_dic, q_ix, q_slc, q_cal, q_blt, q_enil, q_econs, q_met, q_fld, q_fset, r_for, r_lc, r_var, r_ix_ob, r_sl_ob, r_put_ob, r_len_ob, r_tup_ob, r_lst_ob, r_addl, r_app, r_it_ob, r_in_ob, r_nin_ob, r_fld, r_fset, r_isList_ob, optI, Rf.start, g2, f2, List.lookup, kb, ko, kg]
      rw [q_cons, q_ife, c1, R.stm_ok, r_tbl, R.stm_ok, if_pos rfl, q_cons, a1, RS.then_nx, q_cons, a2, RS.then_nx, q_cons, a3, RS.then_nx, q_nil]
      simp [q_set, q_put, q_expr, q_ret, q_retN, q_ife, q_cons, q_nil, q_cst, q_bin, q_neg, q_cmp, q_and, q_or, q_not, q_eife, q_tup, q_lst, q_dic, q_ix, q_slc, q_cal, q_blt, q_enil, q_econs, q_met, q_fld, q_fset, r_for, r_lc, r_var, r_ix_ob, r_sl_ob, r_put_ob, r_len_ob, r_tup_ob, r_lst_ob, r_addl, r_app, r_it_ob, r_in_ob, r_nin_ob, r_fld, r_fset, r_isList_ob, optI, Rf.start]
    · unfold addS
      rw [if_neg hm']
      refine ⟨all _ _ (by first | assumption | exact Ne.symm (by assumption)) (by first | assumption | exact Ne.symm (by assumption)) (by first | assumption | exact Ne.symm (by assumption)) g2, ?_, ?_, ?_, ?_, by simp [lr], fun k x hx => ?_, ?_, ?_, fun z hz => ?_, P.dis, P.lo⟩
      · refine P2.H.keep fun n mo hn e => all n mo ?_ ?_ ?_ e
        · rcases hn with rfl | rfl | rfl | rfl <;> first | assumption | exact Ne.symm (by assumption)
        · rcases hn with rfl | rfl | rfl | rfl <;> first | assumption | exact Ne.symm (by assumption)
        · rcases hn with rfl | rfl | rfl | rfl <;> first | assumption | exact Ne.symm (by assumption)
      · refine gc _ _ (by first | assumption | exact Ne.symm (by assumption)) (gb' _ _ (by first | assumption | exact Ne.symm (by assumption)) ?_)
        rw [eha]; simp [kl]
      · refine gc _ _ (by first | assumption | exact Ne.symm (by assumption)) ?_
        have : rc < ha.length := lk_lt ra
        rw [ehb, List.getElem?_set_self this]
      · have : og < hb.length := lk_lt ob2
        rw [ehc, List.getElem?_set_self this]
      · by_cases hk : k < rl.length
        · rw [List.getElem?_append_left hk] at hx
          obtain ⟨z, b1, b2, b3⟩ := P2.rel k x hx
          exact ⟨z, by rw [List.getElem?_append_left (List.getElem?_eq_some_iff.mp b1).1]; exact b1, b2, b3⟩
        · have hk2 : k = rl.length := by
            have := (List.getElem?_eq_some_iff.mp hx).1
            simp at this; omega
          subst hk2
          simp at hx
          subst hx
          exact ⟨((hd nms kvs t, hd nms kvs u), D.tup [d3, d4]), by rw [lr]; simp, i2, j2⟩
      · rw [List.nodup_append]
        refine ⟨P2.un, by simp, fun a ha' b hb' => ?_⟩
        rw [List.mem_singleton] at hb'; subst hb'
        rintro rfl
        exact hm ha'
      · rw [List.map_append, List.nodup_append]
        refine ⟨P2.uz, by simp, fun a ha' b hb' => ?_⟩
        simp only [List.map_cons, List.map_nil, List.mem_singleton] at hb'
        subst hb'
        rintro rfl
        exact hm' ha'
      · rcases List.mem_append.mp hz with hz | hz
        · exact P2.vv z hz
        · rw [List.mem_singleton] at hz; subst hz
          exact ⟨⟨hv1, hn1⟩, hv2, hn2⟩
    · refine (Ko.set (n := kn) (by simp) (o := .dic false true ((rl ++ [(i, j)]).map kd))).trans ?_
      rw [← eha]
      refine (Ko.set (n := rc) (by simp) (o := .lst ((rl ++ [(i, j)]).map rd2))).trans ?_
      rw [← ehb, ehc]
      exact Ko.set (by simp)
end
end K13
end

section
namespace K13
open PySem PySem.Spec PyProof.Rows L2 Rf
def setK (is : List Nat) (σ : Sg) (x : D) (h : Hs) : RS := match bindT (.tp is) x σ with | some σ => .ok (.nx σ) h | none => .no
theorem q_setT {W : Wd} {L : Nat} {cf : CF} {σ : Sg} {h : Hs} {is : List Nat} {e : E} : evalS W L cf none (.setT is e) σ h = (evalE W cf none e σ h).stm σ fun x h => setK is σ x h := by simp only [evalS] <;> rfl
@[simp] theorem setK_2 (i j : Nat) (σ : Sg) (x y : D) (h : Hs) : setK [i, j] σ (.tup [x, y]) h = .ok (.nx ((σ.set i (some x)).set j (some y))) h := rfl
@[simp] theorem r_is_nn (cs : List (List D)) (h : Hs) : cmpA cs .is_ .non .non h = .ok (.bl true) h := rfl
@[simp] theorem r_is_tn (cs : List (List D)) (xs : List D) (h : Hs) : cmpA cs .is_ (.tup xs) .non h = .ok (.bl false) h := rfl
@[simp] theorem r_isn_nn (cs : List (List D)) (h : Hs) : cmpA cs .isn .non .non h = .ok (.bl false) h := rfl
@[simp] theorem r_isn_tn (cs : List (List D)) (xs : List D) (h : Hs) : cmpA cs .isn (.tup xs) .non h = .ok (.bl true) h := rfl
@[simp] theorem r_isn_in (cs : List (List D)) (i : Int) (h : Hs) : cmpA cs .isn (.int i) .non h = .ok (.bl true) h := rfl
theorem rowF_fnd (s : List Char) : ∀ r : TR, (fnd s (rowL r) = none ∧ rowF r s = .non) ∨ ∃ q, fnd s (rowL r) = some q ∧ rowF r s = .tup [.str s, q.1, toD q.2] ∧ (s, q.1, q.2) ∈ rowL r
  | .nil => .inl ⟨rfl, rfl⟩
  | .cons l p t r => by
    simp only [rowL, fnd, rowF]
    by_cases h : l = s
    · subst h
      exact .inr ⟨(p, t), by simp, by simp, by simp⟩
    · rcases rowF_fnd s r with ⟨a, b⟩ | ⟨q, a, b, c⟩
      · exact .inl ⟨by simp [h, a], by simp [h, b]⟩
      · exact .inr ⟨q, by simp [h, a], by simp [h, b], List.mem_cons_of_mem _ c⟩
theorem toD_tg (t : T) : ∃ r, toD t = .tup (.str (tg t) :: r) := by cases t <;> exact ⟨_, rfl⟩
section
variable {nms : List (List Char)} {kvs : List (D × D)} {V : List T} {b0 pb o y nd m kn rc og vi : Nat} {met : List T} {zt : St} {rl : List (Nat × Nat)} {h h' : Hs}
theorem pay_V (U : Uni nms kvs V) {t : T} (ht : t ∈ V) {x : List Char × D × T} (hx : x ∈ rowL (rowsT t)) : okP nms x.2.1 ∧ (∀ u, payT x.2.1 = some u → u ∈ V ∧ toD u = x.2.1) ∧ x.2.2 ∈ V := by
  obtain ⟨j, hj⟩ := rowsT_ok0 (U.ok t ht)
  have hp := (rowL_pay hj x hx).2.1
  refine ⟨hp, fun u hu => ?_, U.af t ht x hx⟩
  rcases payT_ok hp with ⟨a, _⟩ | ⟨u', a, b, s, hs, c⟩
  · rw [a] at hu; cases hu
  · rw [a] at hu; cases hu
    refine ⟨?_, b⟩
    rcases c with rfl | rfl
    · exact (U.py t ht x hx s).1 (by rw [← b]; rfl)
    · exact (U.py t ht x hx s).2 (by rw [← b]; rfl)
variable {W : Wd} (hW : Has W) (hC : HasC W) (hP : HasP W) (L : Nat)
include hP hC hW
theorem met_re (P : PD nms kvs V b0 pb o y nd m kn rc og vi met zt rl h) (cf : CF) (es : List E) (σ : Sg) : metK W cf "reach" es σ (.ob pb) h = (evalEs W cf none es σ h).bind fun xs h => cf 31 (.ob pb :: xs) h :=
  r_metI P.ob hP (by rfl) (by simp [List.lookup])
theorem met_bg (P : PD nms kvs V b0 pb o y nd m kn rc og vi met zt rl h) (cf : CF) (es : List E) (σ : Sg) : metK W cf "begin" es σ (.ob pb) h = (evalEs W cf none es σ h).bind fun xs h => cf 30 (.ob pb :: xs) h :=
  r_metI P.ob hP (by rfl) (by simp [List.lookup])
theorem met_ph (P : PD nms kvs V b0 pb o y nd m kn rc og vi met zt rl h) (cf : CF) (es : List E) (σ : Sg) : metK W cf "heads_at" es σ (.ob pb) h = (evalEs W cf none es σ h).bind fun xs h => cf 32 (.ob pb :: xs) h :=
  r_metI P.ob hP (by rfl) (by simp [List.lookup])
theorem met_ps (P : PD nms kvs V b0 pb o y nd m kn rc og vi met zt rl h) (cf : CF) (es : List E) (σ : Sg) : metK W cf "_steps_to" es σ (.ob pb) h = (evalEs W cf none es σ h).bind fun xs h => cf 34 (.ob pb :: xs) h :=
  r_metI P.ob hP (by rfl) (by simp [List.lookup])
theorem heads_at_ok (P : PD nms kvs V b0 pb o y nd m kn rc og vi met zt rl h) (N : Nat) (hN : 2 ≤ N) {i : Nat} {z : Pr × D} (hi : zt[i]? = some z) : callF W L N 32 [.ob pb, .int i] h = .ok (.tup [toD z.1.1, toD z.1.2]) h := by
  obtain ⟨M, rfl⟩ : ∃ M, N = M + 1 := ⟨N - 1, by omega⟩
  rw [callF_s (hW 32 _ (by decide) rfl) rfl]
  obtain ⟨f1, f2, f3, f4, f5⟩ := hasF_p hP
  have e1 := P.ob
  have e2 := P.rb
  have hl : i < rl.length := by rw [P.ln]; exact (List.getElem?_eq_some_iff.mp hi).1
  obtain ⟨x, hx⟩ : ∃ x, rl[i]? = some x := ⟨rl[i], by simp [hl]⟩
  obtain ⟨z', b1, b2, b3⟩ := P.rel i x hx
  rw [hi] at b1; cases b1
  have e3 : atI (rl.map rd2) (i : Int) = some (.tup [.int x.1, .int x.2]) := by
    rw [atI_nat (by simpa using hl)]
    have := (List.getElem?_eq_some_iff.mp hx).2
    simp [this, rd2]
  have e4 := head_at_ok hW hC L P.H M (by omega) b2
  have e5 := head_at_ok hW hC L P.H M (by omega) b3
  simp [q_set, q_put, q_expr, q_ret, q_retN, q_ife, q_cons, q_nil, q_cst, q_bin, q_neg, q_cmp, q_and, q_or, q_not, q_eife, q_tup, q_lst, q_dic, q_ix, q_slc, q_cal, q_blt, q_enil, q_econs, q_met, q_fld, q_fset, r_for, r_lc, r_var, r_ix_ob, r_sl_ob, r_put_ob, r_len_ob, r_tup_ob, r_lst_ob, r_addl, r_app, r_it_ob, r_in_ob, r_nin_ob, r_fld, r_fset, r_isList_ob, optI, Rf.start, f_Pairs_heads_at, q_setT, e1, f1, f3, e2, e3, met_ha hW hC P.H, e4, e5, List.lookup, sizeLine]
abbrev bodyV : List S := [.set 10 (.cal 16 [(.var 6), (.var 7)]),
    .ife (.cmp .is_ (.var 10) (.cst .non))
      [.ret (.tup [(.cst (.str ['m', 'i', 's', 's', 'i', 'n', 'g'])), (.var 7)])]
      [],
    .ife (.and (.blt .isTup [(.var 8)]) (.blt .isTup [(.ix (.var 10) (.cst (.int 1)))]))
      [.expr (.met (.var 0) "reach" [(.var 8), (.ix (.var 10) (.cst (.int 1))), (.var 1), (.tup [(.var 7), (.cst (.str ['p', 'a', 'y', 'l', 'o', 'a', 'd']))])])]
      [.ife (.cmp .ne (.var 8) (.ix (.var 10) (.cst (.int 1))))
        [.ret (.tup [(.cst (.str ['p', 'a', 'y', 'l', 'o', 'a', 'd'])), (.var 7)])]
        []],
    .ife (.var 4)
      [.expr (.met (.var 0) "reach" [(.ix (.var 10) (.cst (.int 2))), (.var 9), (.var 1), (.tup [(.var 7), (.cst (.str ['n', 'e', 'x', 't']))])])]
      [.expr (.met (.var 0) "reach" [(.var 9), (.ix (.var 10) (.cst (.int 2))), (.var 1), (.tup [(.var 7), (.cst (.str ['n', 'e', 'x', 't']))])])]]
def resS (r : Option D) (σ : Sg) (h : Hs) : RS := match r with | none => .ok (.nx σ) h | some d => .ok (.rt d) h
/-- one row of the talk that asks -/
theorem vis_row (U : Uni nms kvs V) (P : PD nms kvs V b0 pb o y nd m kn rc og vi met zt rl h) (M : Nat) (hM : 15 ≤ M) (hL : 10 ≤ L) (i : Nat) (s2 s3 s5 : Option D) (says : Bool) {g : T} (hg : g ∈ V) {l : List Char} {p : D} {t : T} (hp : okP nms p) (hpv : ∀ u, payT p = some u → u ∈ V ∧ toD u = p) (ht : t ∈ V) (s7 s8 s9 s10 : Option D) :
    ∃ (s10' : Option D) (met' : List T) (rl' : List (Nat × Nat)) (h' : Hs), fT W L (callF W L M) (.tp [7, 8, 9]) bodyV (.tup [.str l, p, toD t]) [some (.ob pb), some (.int i), s2, s3, some (.bl says), s5, some (toD g), s7, s8, s9, s10] h =
      resS (rowP nms kvs says (rowL (rowsT g)) (l, p, t)).2 [some (.ob pb), some (.int i), s2, s3, some (.bl says), s5, some (toD g), some (.str l), some p, some (toD t), s10'] h' ∧
      PD nms kvs V b0 pb o y nd m kn rc og vi met' (addsS i zt (rowP nms kvs says (rowL (rowsT g)) (l, p, t)).1) rl' h' ∧ Ko [pb, nd, m, kn, rc, og] h h' := by
  rw [fT_some (σ1 := [some (.ob pb), some (.int i), s2, s3, some (.bl says), s5, some (toD g), some (.str l), some p, some (toD t), s10]) rfl]
  have e1 := row_of_ok hW L (hW 14 _ (by decide) rfl) (hW 16 _ (by decide) rfl) M (by omega) g l h
  have s1 : evalS W L (callF W L M) none (.set 10 (.cal 16 [(.var 6), (.var 7)])) [some (.ob pb), some (.int i), s2, s3, some (.bl says), s5, some (toD g), some (.str l), some p, some (toD t), s10] h = .ok (.nx [some (.ob pb), some (.int i), s2, s3, some (.bl says), s5, some (toD g), some (.str l), some p, some (toD t), some (rowF (rowsT g) l)]) h := by
    simp [q_set, q_put, q_expr, q_ret, q_retN, q_ife, q_cons, q_nil, q_cst, q_bin, q_neg, q_cmp, q_and, q_or, q_not, q_eife, q_tup, q_lst, q_dic, q_ix, q_slc, q_cal, q_blt, q_enil, q_econs, q_met, q_fld, q_fset, r_for, r_lc, r_var, r_ix_ob, r_sl_ob, r_put_ob, r_len_ob, r_tup_ob, r_lst_ob, r_addl, r_app, r_it_ob, r_in_ob, r_nin_ob, r_fld, r_fset, r_isList_ob, optI, Rf.start, e1]
  rw [q_cons, s1, RS.then_nx]
  unfold rowP
  rcases rowF_fnd l (rowsT g) with ⟨a, b⟩ | ⟨q, a, b, c⟩
  · rw [a, b]
    refine ⟨some .non, met, rl, h, ?_, P, Ko.refl⟩
    simp [q_set, q_put, q_expr, q_ret, q_retN, q_ife, q_cons, q_nil, q_cst, q_bin, q_neg, q_cmp, q_and, q_or, q_not, q_eife, q_tup, q_lst, q_dic, q_ix, q_slc, q_cal, q_blt, q_enil, q_econs, q_met, q_fld, q_fset, r_for, r_lc, r_var, r_ix_ob, r_sl_ob, r_put_ob, r_len_ob, r_tup_ob, r_lst_ob, r_addl, r_app, r_it_ob, r_in_ob, r_nin_ob, r_fld, r_fset, r_isList_ob, optI, Rf.start, sizeLine, resS]
  · rw [a, b]
    obtain ⟨gp, gpv, gt⟩ := pay_V U hg c
    simp only at gp gpv gt ⊢
    -- the talks behind the label
    have fin : ∀ {met1 : List T} {zt1 : St} {rl1 : List (Nat × Nat)} (h1 : Hs), PD nms kvs V b0 pb o y nd m kn rc og vi met1 zt1 rl1 h1 → Ko [pb, nd, m, kn, rc, og] h h1 →
        ∃ (met' : List T) (rl' : List (Nat × Nat)) (h' : Hs), evalB W L (callF W L M) none [.ife (.var 4)
      [.expr (.met (.var 0) "reach" [(.ix (.var 10) (.cst (.int 2))), (.var 9), (.var 1), (.tup [(.var 7), (.cst (.str ['n', 'e', 'x', 't']))])])]
      [.expr (.met (.var 0) "reach" [(.var 9), (.ix (.var 10) (.cst (.int 2))), (.var 1), (.tup [(.var 7), (.cst (.str ['n', 'e', 'x', 't']))])])]] [some (.ob pb), some (.int i), s2, s3, some (.bl says), s5, some (toD g), some (.str l), some p, some (toD t), some (.tup [.str l, q.1, toD q.2])] h1 =
          .ok (.nx [some (.ob pb), some (.int i), s2, s3, some (.bl says), s5, some (toD g), some (.str l), some p, some (toD t), some (.tup [.str l, q.1, toD q.2])]) h' ∧
          PD nms kvs V b0 pb o y nd m kn rc og vi met' (addS zt1 (if says then (hd nms kvs q.2, hd nms kvs t) else (hd nms kvs t, hd nms kvs q.2)) (.tup [.int i, .tup [.str l, .str cX]])) rl' h' ∧ Ko [pb, nd, m, kn, rc, og] h h' := by
      intro met1 zt1 rl1 h1 P1 k1
      cases says with
      | true =>
        obtain ⟨met', rl', h', e2, P2, k2⟩ := reach_ok hW hC hP L U P1 M (by omega) hL gt ht (.int i) (.tup [.str l, .str cX])
        refine ⟨met', rl', h', ?_, P2, k1.trans k2⟩
        simp [q_set, q_put, q_expr, q_ret, q_retN, q_ife, q_cons, q_nil, q_cst, q_bin, q_neg, q_cmp, q_and, q_or, q_not, q_eife, q_tup, q_lst, q_dic, q_ix, q_slc, q_cal, q_blt, q_enil, q_econs, q_met, q_fld, q_fset, r_for, r_lc, r_var, r_ix_ob, r_sl_ob, r_put_ob, r_len_ob, r_tup_ob, r_lst_ob, r_addl, r_app, r_it_ob, r_in_ob, r_nin_ob, r_fld, r_fset, r_isList_ob, optI, Rf.start, met_re hW hC hP P1, atI_2, e2, sizeLine]
      | false =>
        obtain ⟨met', rl', h', e2, P2, k2⟩ := reach_ok hW hC hP L U P1 M (by omega) hL ht gt (.int i) (.tup [.str l, .str cX])
        refine ⟨met', rl', h', ?_, P2, k1.trans k2⟩
        simp [q_set, q_put, q_expr, q_ret, q_retN, q_ife, q_cons, q_nil, q_cst, q_bin, q_neg, q_cmp, q_and, q_or, q_not, q_eife, q_tup, q_lst, q_dic, q_ix, q_slc, q_cal, q_blt, q_enil, q_econs, q_met, q_fld, q_fset, r_for, r_lc, r_var, r_ix_ob, r_sl_ob, r_put_ob, r_len_ob, r_tup_ob, r_lst_ob, r_addl, r_app, r_it_ob, r_in_ob, r_nin_ob, r_fld, r_fset, r_isList_ob, optI, Rf.start, met_re hW hC hP P1, atI_2, e2, sizeLine]
    have c0 : evalS W L (callF W L M) none (.ife (.cmp .is_ (.var 10) (.cst .non)) [.ret (.tup [(.cst (.str ['m', 'i', 's', 's', 'i', 'n', 'g'])), (.var 7)])] []) [some (.ob pb), some (.int i), s2, s3, some (.bl says), s5, some (toD g), some (.str l), some p, some (toD t), some (.tup [.str l, q.1, toD q.2])] h = .ok (.nx [some (.ob pb), some (.int i), s2, s3, some (.bl says), s5, some (toD g), some (.str l), some p, some (toD t), some (.tup [.str l, q.1, toD q.2])]) h := by simp [q_set, q_put, q_expr, q_ret, q_retN, q_ife, q_cons, q_nil, q_cst, q_bin, q_neg, q_cmp, q_and, q_or, q_not, q_eife, q_tup, q_lst, q_dic, q_ix, q_slc, q_cal, q_blt, q_enil, q_econs, q_met, q_fld, q_fset, r_for, r_lc, r_var, r_ix_ob, r_sl_ob, r_put_ob, r_len_ob, r_tup_ob, r_lst_ob, r_addl, r_app, r_it_ob, r_in_ob, r_nin_ob, r_fld, r_fset, r_isList_ob, optI, Rf.start]
    rw [q_cons, c0, RS.then_nx, q_cons]
    have it : ∀ {p : D}, okP nms p → bltC W .isTup [p] h = .ok (.bl (payT p).isSome) h := by
      intro p hp
      rcases payT_ok hp with ⟨e, rfl | rfl | rfl⟩ | ⟨u, e, _, s, _, rfl | rfl⟩
      · rfl
      · rfl
      · rfl
      · rcases hp with rfl | rfl | rfl | ⟨s', _, rfl | rfl⟩ <;> simp [payT] at e ⊢
      · rcases hp with rfl | rfl | rfl | ⟨s', _, rfl | rfl⟩ <;> simp [payT] at e ⊢
    have i1 := it hp
    have i2 := it gp
    cases hu : payT p with
    | some u =>
      cases hu' : payT q.1 with
      | some u' =>
        obtain ⟨v1, d1⟩ := hpv u hu
        obtain ⟨v2, d2⟩ := gpv u' hu'
        obtain ⟨met1, rl1, h1, e2, P1, k1⟩ := reach_ok hW hC hP L U P M (by omega) hL v1 v2 (.int i) (.tup [.str l, .str cP])
        rw [d1, d2] at e2
        obtain ⟨met', rl', h', e3, P3, k3⟩ := fin h1 P1 k1
        refine ⟨some (.tup [.str l, q.1, toD q.2]), met', rl', h', ?_, P3, k3⟩
        have c1 : evalS W L (callF W L M) none (.ife (.and (.blt .isTup [(.var 8)]) (.blt .isTup [(.ix (.var 10) (.cst (.int 1)))]))
            [.expr (.met (.var 0) "reach" [(.var 8), (.ix (.var 10) (.cst (.int 1))), (.var 1), (.tup [(.var 7), (.cst (.str ['p', 'a', 'y', 'l', 'o', 'a', 'd']))])])]
            [.ife (.cmp .ne (.var 8) (.ix (.var 10) (.cst (.int 1))))
              [.ret (.tup [(.cst (.str ['p', 'a', 'y', 'l', 'o', 'a', 'd'])), (.var 7)])]
              []]) [some (.ob pb), some (.int i), s2, s3, some (.bl says), s5, some (toD g), some (.str l), some p, some (toD t), some (.tup [.str l, q.1, toD q.2])] h = .ok (.nx [some (.ob pb), some (.int i), s2, s3, some (.bl says), s5, some (toD g), some (.str l), some p, some (toD t), some (.tup [.str l, q.1, toD q.2])]) h1 := by
          rw [hu] at i1; rw [hu'] at i2
          simp [q_set, q_put, q_expr, q_ret, q_retN, q_ife, q_cons, q_nil, q_cst, q_bin, q_neg, q_cmp, q_and, q_or, q_not, q_eife, q_tup, q_lst, q_dic, q_ix, q_slc, q_cal, q_blt, q_enil, q_econs, q_met, q_fld, q_fset, r_for, r_lc, r_var, r_ix_ob, r_sl_ob, r_put_ob, r_len_ob, r_tup_ob, r_lst_ob, r_addl, r_app, r_it_ob, r_in_ob, r_nin_ob, r_fld, r_fset, r_isList_ob, optI, Rf.start, i1, i2, atI_1, met_re hW hC hP P, e2, sizeLine]
        rw [c1, RS.then_nx]
        exact e3
      | none =>
        have f1 : flat p = true := by obtain ⟨a, b⟩ := okP_dat hp; simp [flat, a]; omega
        have f2 : flat q.1 = true := by obtain ⟨a, b⟩ := okP_dat gp; simp [flat, a]; omega
        rw [hu] at i1; rw [hu'] at i2
        cases he : eqv p q.1 with
        | true =>
          obtain ⟨met', rl', h', e3, P3, k3⟩ := fin h P Ko.refl
          refine ⟨some (.tup [.str l, q.1, toD q.2]), met', rl', h', ?_, P3, k3⟩
          have c1 : evalS W L (callF W L M) none (.ife (.and (.blt .isTup [(.var 8)]) (.blt .isTup [(.ix (.var 10) (.cst (.int 1)))]))
              [.expr (.met (.var 0) "reach" [(.var 8), (.ix (.var 10) (.cst (.int 1))), (.var 1), (.tup [(.var 7), (.cst (.str ['p', 'a', 'y', 'l', 'o', 'a', 'd']))])])]
              [.ife (.cmp .ne (.var 8) (.ix (.var 10) (.cst (.int 1))))
                [.ret (.tup [(.cst (.str ['p', 'a', 'y', 'l', 'o', 'a', 'd'])), (.var 7)])]
                []]) [some (.ob pb), some (.int i), s2, s3, some (.bl says), s5, some (toD g), some (.str l), some p, some (toD t), some (.tup [.str l, q.1, toD q.2])] h = .ok (.nx [some (.ob pb), some (.int i), s2, s3, some (.bl says), s5, some (toD g), some (.str l), some p, some (toD t), some (.tup [.str l, q.1, toD q.2])]) h := by
            simp [q_set, q_put, q_expr, q_ret, q_retN, q_ife, q_cons, q_nil, q_cst, q_bin, q_neg, q_cmp, q_and, q_or, q_not, q_eife, q_tup, q_lst, q_dic, q_ix, q_slc, q_cal, q_blt, q_enil, q_econs, q_met, q_fld, q_fset, r_for, r_lc, r_var, r_ix_ob, r_sl_ob, r_put_ob, r_len_ob, r_tup_ob, r_lst_ob, r_addl, r_app, r_it_ob, r_in_ob, r_nin_ob, r_fld, r_fset, r_isList_ob, optI, Rf.start, i1, i2, atI_1, r_ne f1 f2, he]
          rw [c1, RS.then_nx]
          exact e3
        | false =>
          refine ⟨some (.tup [.str l, q.1, toD q.2]), met, rl, h, ?_, P, Ko.refl⟩
          simp [q_set, q_put, q_expr, q_ret, q_retN, q_ife, q_cons, q_nil, q_cst, q_bin, q_neg, q_cmp, q_and, q_or, q_not, q_eife, q_tup, q_lst, q_dic, q_ix, q_slc, q_cal, q_blt, q_enil, q_econs, q_met, q_fld, q_fset, r_for, r_lc, r_var, r_ix_ob, r_sl_ob, r_put_ob, r_len_ob, r_tup_ob, r_lst_ob, r_addl, r_app, r_it_ob, r_in_ob, r_nin_ob, r_fld, r_fset, r_isList_ob, optI, Rf.start, i1, i2, atI_1, r_ne f1 f2, he, sizeLine, resS]
    | none =>
      have f1 : flat p = true := by obtain ⟨a, b⟩ := okP_dat hp; simp [flat, a]; omega
      have f2 : flat q.1 = true := by obtain ⟨a, b⟩ := okP_dat gp; simp [flat, a]; omega
      rw [hu] at i1
      cases he : eqv p q.1 with
      | true =>
        obtain ⟨met', rl', h', e3, P3, k3⟩ := fin h P Ko.refl
        refine ⟨some (.tup [.str l, q.1, toD q.2]), met', rl', h', ?_, P3, k3⟩
        have c1 : evalS W L (callF W L M) none (.ife (.and (.blt .isTup [(.var 8)]) (.blt .isTup [(.ix (.var 10) (.cst (.int 1)))]))
            [.expr (.met (.var 0) "reach" [(.var 8), (.ix (.var 10) (.cst (.int 1))), (.var 1), (.tup [(.var 7), (.cst (.str ['p', 'a', 'y', 'l', 'o', 'a', 'd']))])])]
            [.ife (.cmp .ne (.var 8) (.ix (.var 10) (.cst (.int 1))))
              [.ret (.tup [(.cst (.str ['p', 'a', 'y', 'l', 'o', 'a', 'd'])), (.var 7)])]
              []]) [some (.ob pb), some (.int i), s2, s3, some (.bl says), s5, some (toD g), some (.str l), some p, some (toD t), some (.tup [.str l, q.1, toD q.2])] h = .ok (.nx [some (.ob pb), some (.int i), s2, s3, some (.bl says), s5, some (toD g), some (.str l), some p, some (toD t), some (.tup [.str l, q.1, toD q.2])]) h := by
          simp [q_set, q_put, q_expr, q_ret, q_retN, q_ife, q_cons, q_nil, q_cst, q_bin, q_neg, q_cmp, q_and, q_or, q_not, q_eife, q_tup, q_lst, q_dic, q_ix, q_slc, q_cal, q_blt, q_enil, q_econs, q_met, q_fld, q_fset, r_for, r_lc, r_var, r_ix_ob, r_sl_ob, r_put_ob, r_len_ob, r_tup_ob, r_lst_ob, r_addl, r_app, r_it_ob, r_in_ob, r_nin_ob, r_fld, r_fset, r_isList_ob, optI, Rf.start, i1, i2, atI_1, r_ne f1 f2, he]
        rw [c1, RS.then_nx]
        exact e3
      | false =>
        refine ⟨some (.tup [.str l, q.1, toD q.2]), met, rl, h, ?_, P, Ko.refl⟩
        simp [q_set, q_put, q_expr, q_ret, q_retN, q_ife, q_cons, q_nil, q_cst, q_bin, q_neg, q_cmp, q_and, q_or, q_not, q_eife, q_tup, q_lst, q_dic, q_ix, q_slc, q_cal, q_blt, q_enil, q_econs, q_met, q_fld, q_fset, r_for, r_lc, r_var, r_ix_ob, r_sl_ob, r_put_ob, r_len_ob, r_tup_ob, r_lst_ob, r_addl, r_app, r_it_ob, r_in_ob, r_nin_ob, r_fld, r_fset, r_isList_ob, optI, Rf.start, i1, i2, atI_1, r_ne f1 f2, he, sizeLine, resS]
end
end K13
end

section
namespace K13
open PySem PySem.Spec PyProof.Rows L2 Rf
theorem addsS_app (i : Nat) (zt : St) (a b : List Ps) : addsS i zt (a ++ b) = addsS i (addsS i zt a) b := by unfold addsS; rw [List.foldl_append]
/-- where steps come from -/
def Ch (zt : St) : Prop := ∀ (k : Nat) (z : Pr × D), zt[k]? = some z → z.2 = .tup [.non, .non] ∨ ∃ (j : Nat) (s : D), j < k ∧ z.2 = .tup [.int j, s]
theorem Ch.add {zt : St} (c : Ch zt) {i : Nat} (hi : i < zt.length) (pr : Pr) (s : D) : Ch (addS zt pr (.tup [.int i, s])) := by
  unfold addS
  split
  · exact c
  · intro k z hz
    by_cases hk : k < zt.length
    · rw [List.getElem?_append_left hk] at hz
      exact c k z hz
    · have hk2 : k = zt.length := by
        have := (List.getElem?_eq_some_iff.mp hz).1
        simp at this; omega
      subst hk2
      simp at hz; subst hz
      exact .inr ⟨i, s, hi, rfl⟩
theorem Ch.adds {i : Nat} : ∀ (ps : List Ps) {zt : St}, Ch zt → i < zt.length → Ch (addsS i zt ps)
  | [], _, c, _ => c
  | x :: ps, zt, c, hi => by
    refine Ch.adds ps (zt := addS zt x.1 (.tup [.int i, x.2])) (c.add hi _ _) ?_
    obtain ⟨b, e⟩ := addS_pre zt x.1 (.tup [.int i, x.2])
    rw [e, List.length_append]; omega
inductive Pth (zt : St) : Nat → List D → Prop where
  | root {k : Nat} {pr : Pr} (e : zt[k]? = some (pr, .tup [.non, .non])) : Pth zt k []
  | step {k j : Nat} {pr : Pr} {s : D} {ps : List D} (e : zt[k]? = some (pr, .tup [.int j, s])) (hj : j < k) (h : Pth zt j ps) : Pth zt k (ps ++ [s])
theorem Ch.pth {zt : St} (c : Ch zt) : ∀ (k : Nat), k < zt.length → ∃ ps, Pth zt k ps := by
  intro k
  induction k using Nat.strongRecOn with
  | _ k ih =>
    intro hk
    obtain ⟨z, hz⟩ : ∃ z, zt[k]? = some z := ⟨zt[k], by simp [hk]⟩
    obtain ⟨pr, od⟩ := z
    rcases c k _ hz with e | ⟨j, s, hj, e⟩
    · simp only at e; subst e; exact ⟨[], .root hz⟩
    · simp only at e; subst e
      obtain ⟨ps, h⟩ := ih j hj (by omega)
      exact ⟨_, .step hz hj h⟩
theorem Pth.len {zt : St} {k : Nat} {ps : List D} (h : Pth zt k ps) : ps.length ≤ k := by
  induction h with
  | root => simp
  | step e hj h ih => simp; omega
section
variable {nms : List (List Char)} {kvs : List (D × D)} {V : List T} {b0 pb o y nd m kn rc og vi : Nat} {met : List T} {zt : St} {rl : List (Nat × Nat)} {h h' : Hs}
variable {W : Wd} (hW : Has W) (hC : HasC W) (hP : HasP W) (L : Nat)
include hP hC hW
theorem vis_rows (U : Uni nms kvs V) (M : Nat) (hM : 15 ≤ M) (hL : 10 ≤ L) (i : Nat) (s2 s3 s5 : Option D) (says : Bool) {g : T} (hg : g ∈ V) : ∀ (r : TR), (∀ x ∈ rowL r, okP nms x.2.1 ∧ (∀ u, payT x.2.1 = some u → u ∈ V ∧ toD u = x.2.1) ∧ x.2.2 ∈ V) → ∀ {met : List T} {zt : St} {rl : List (Nat × Nat)} {h : Hs} (s7 s8 s9 s10 : Option D), PD nms kvs V b0 pb o y nd m kn rc og vi met zt rl h →
    ∃ (s7' s8' s9' s10' : Option D) (met' : List T) (rl' : List (Nat × Nat)) (h' : Hs), forI .none (fT W L (callF W L M) (.tp [7, 8, 9]) bodyV) (rowsD r) [some (.ob pb), some (.int i), s2, s3, some (.bl says), s5, some (toD g), s7, s8, s9, s10] h =
      resS (goR nms kvs says (rowL (rowsT g)) (rowL r)).2 [some (.ob pb), some (.int i), s2, s3, some (.bl says), s5, some (toD g), s7', s8', s9', s10'] h' ∧
      PD nms kvs V b0 pb o y nd m kn rc og vi met' (addsS i zt (goR nms kvs says (rowL (rowsT g)) (rowL r)).1) rl' h' ∧ Ko [pb, nd, m, kn, rc, og] h h'
  | .nil, _, met, zt, rl, h, s7, s8, s9, s10, P => ⟨s7, s8, s9, s10, met, rl, h, forI_nil (by trivial), P, Ko.refl⟩
  | .cons l p t r, hv, met, zt, rl, h, s7, s8, s9, s10, P => by
    obtain ⟨hp, hpv, ht⟩ := hv (l, p, t) (by simp [rowL])
    obtain ⟨a10, met1, rl1, h1, e1, P1, k1⟩ := vis_row hW hC hP L U P M hM hL i s2 s3 s5 says hg (l := l) hp hpv ht s7 s8 s9 s10
    simp only [rowL, goR]
    cases hr : (rowP nms kvs says (rowL (rowsT g)) (l, p, t)).2 with
    | some d =>
      rw [hr] at e1
      refine ⟨some (.str l), some p, some (toD t), a10, met1, rl1, h1, ?_, P1, k1⟩
      rw [rowsD, forI_rt (h' := h1) (x := d) (by trivial) (by trivial) e1]
      rfl
    | none =>
      rw [hr] at e1
      obtain ⟨b7, b8, b9, b10, met2, rl2, h2, e2, P2, k2⟩ := vis_rows U M hM hL i s2 s3 s5 says hg r (fun x hx => hv x (by simp [rowL, hx])) (some (.str l)) (some p) (some (toD t)) a10 P1
      refine ⟨b7, b8, b9, b10, met2, rl2, h2, ?_, ?_, k1.trans k2⟩
      · rw [rowsD, forI_nx (by trivial) e1]
        exact e2
      · simp only
        rw [addsS_app]
        exact P2
theorem visit_ok (U : Uni nms kvs V) (P : PD nms kvs V b0 pb o y nd m kn rc og vi met zt rl h) (N : Nat) (hN : 16 ≤ N) (hL : 10 ≤ L) {i : Nat} {z : Pr × D} (hi : zt[i]? = some z) :
    ∃ (met' : List T) (rl' : List (Nat × Nat)) (h' : Hs), callF W L N 20 [.ob pb, .int i] h = .ok ((visP nms kvs z.1).2.getD .non) h' ∧ PD nms kvs V b0 pb o y nd m kn rc og vi met' (addsS i zt (visP nms kvs z.1).1) rl' h' ∧ Ko [pb, nd, m, kn, rc, og] h h' := by
  obtain ⟨M, rfl⟩ : ∃ M, N = M + 1 := ⟨N - 1, by omega⟩
  rw [callF_s (hW 20 _ (by decide) rfl) rfl]
  have e1 := heads_at_ok hW hC hP L P M (by omega) hi
  obtain ⟨⟨v1, n1⟩, v2, n2⟩ := P.vv z (List.mem_of_getElem? hi)
  obtain ⟨⟨a, b⟩, od⟩ := z
  simp only at v1 n1 v2 n2 e1 ⊢
  obtain ⟨ra, ea⟩ := toD_tg a
  obtain ⟨rb, eb⟩ := toD_tg b
  have es : Rf.start f_visit.ns [D.ob pb, D.int i] = [some (.ob pb), some (.int i), none, none, none, none, none, none, none, none, none] := rfl
  rw [es]
  have s1 : evalS W L (callF W L M) none (.setT [2, 3] (.met (.var 0) "heads_at" [(.var 1)])) [some (.ob pb), some (.int i), none, none, none, none, none, none, none, none, none] h = .ok (.nx [some (.ob pb), some (.int i), some (toD a), some (toD b), none, none, none, none, none, none, none]) h := by
    simp [q_set, q_put, q_expr, q_ret, q_retN, q_ife, q_cons, q_nil, q_cst, q_bin, q_neg, q_cmp, q_and, q_or, q_not, q_eife, q_tup, q_lst, q_dic, q_ix, q_slc, q_cal, q_blt, q_enil, q_econs, q_met, q_fld, q_fset, r_for, r_lc, r_var, r_ix_ob, r_sl_ob, r_put_ob, r_len_ob, r_tup_ob, r_lst_ob, r_addl, r_app, r_it_ob, r_in_ob, r_nin_ob, r_fld, r_fset, r_isList_ob, optI, Rf.start, q_setT, met_ph hW hC hP P, e1]
  have i1 : atI (.str (tg a) :: ra) 0 = some (.str (tg a)) := atI_0 _ _
  have i2 : atI (.str (tg b) :: rb) 0 = some (.str (tg b)) := atI_0 _ _
  unfold f_visit
  rw [q_cons, s1, RS.then_nx, q_cons]
  by_cases ht : tg a = tg b
  · have hx : ∀ t ∈ V, ∀ x ∈ rowL (rowsT t), okP nms x.2.1 ∧ (∀ u, payT x.2.1 = some u → u ∈ V ∧ toD u = x.2.1) ∧ x.2.2 ∈ V := fun t ht x hx => pay_V U ht hx
    have vg : givT a b ∈ V := by unfold givT; split <;> assumption
    have va : askT a b ∈ V := by unfold askT; split <;> assumption
    have s2 : evalS W L (callF W L M) none (.ife (.cmp .ne (.ix (.var 2) (.cst (.int 0))) (.ix (.var 3) (.cst (.int 0)))) [.ret (.tup [(.cst (.str ['h', 'e', 'a', 'd']))])] []) [some (.ob pb), some (.int i), some (toD a), some (toD b), none, none, none, none, none, none, none] h = .ok (.nx [some (.ob pb), some (.int i), some (toD a), some (toD b), none, none, none, none, none, none, none]) h := by
      rw [ea, eb]
      simp [q_set, q_put, q_expr, q_ret, q_retN, q_ife, q_cons, q_nil, q_cst, q_bin, q_neg, q_cmp, q_and, q_or, q_not, q_eife, q_tup, q_lst, q_dic, q_ix, q_slc, q_cal, q_blt, q_enil, q_econs, q_met, q_fld, q_fset, r_for, r_lc, r_var, r_ix_ob, r_sl_ob, r_put_ob, r_len_ob, r_tup_ob, r_lst_ob, r_addl, r_app, r_it_ob, r_in_ob, r_nin_ob, r_fld, r_fset, r_isList_ob, optI, Rf.start, atI_0, ht]
    have s3 : evalS W L (callF W L M) none (.set 4 (.cmp .eq (.ix (.var 2) (.cst (.int 0))) (.cst (.str ['s', 'a', 'y'])))) [some (.ob pb), some (.int i), some (toD a), some (toD b), none, none, none, none, none, none, none] h = .ok (.nx [some (.ob pb), some (.int i), some (toD a), some (toD b), some (.bl (sayB a)), none, none, none, none, none, none]) h := by
      rw [ea]
      simp [q_set, q_put, q_expr, q_ret, q_retN, q_ife, q_cons, q_nil, q_cst, q_bin, q_neg, q_cmp, q_and, q_or, q_not, q_eife, q_tup, q_lst, q_dic, q_ix, q_slc, q_cal, q_blt, q_enil, q_econs, q_met, q_fld, q_fset, r_for, r_lc, r_var, r_ix_ob, r_sl_ob, r_put_ob, r_len_ob, r_tup_ob, r_lst_ob, r_addl, r_app, r_it_ob, r_in_ob, r_nin_ob, r_fld, r_fset, r_isList_ob, optI, Rf.start, i1, sayB]
    have s4 : evalS W L (callF W L M) none (.setT [5, 6] (.ife (.var 4) (.tup [(.var 3), (.var 2)]) (.tup [(.var 2), (.var 3)]))) [some (.ob pb), some (.int i), some (toD a), some (toD b), some (.bl (sayB a)), none, none, none, none, none, none] h = .ok (.nx [some (.ob pb), some (.int i), some (toD a), some (toD b), some (.bl (sayB a)), some (toD (askT a b)), some (toD (givT a b)), none, none, none, none]) h := by
      cases hs : sayB a <;> simp [q_set, q_put, q_expr, q_ret, q_retN, q_ife, q_cons, q_nil, q_cst, q_bin, q_neg, q_cmp, q_and, q_or, q_not, q_eife, q_tup, q_lst, q_dic, q_ix, q_slc, q_cal, q_blt, q_enil, q_econs, q_met, q_fld, q_fset, r_for, r_lc, r_var, r_ix_ob, r_sl_ob, r_put_ob, r_len_ob, r_tup_ob, r_lst_ob, r_addl, r_app, r_it_ob, r_in_ob, r_nin_ob, r_fld, r_fset, r_isList_ob, optI, Rf.start, q_setT, askT, givT, hs, sizeLine]
    have e2 := rows_of_ok hW L (hW 14 _ (by decide) rfl) M (by omega) (askT a b) h
    obtain ⟨b7, b8, b9, b10, met2, rl2, h2, e3, P2, k2⟩ := vis_rows hW hC hP L U M (by omega) hL i (some (toD a)) (some (toD b)) (some (toD (askT a b))) (sayB a) vg (rowsT (askT a b)) (hx _ va) none none none none P
    have ev1 : visP nms kvs (a, b) = goR nms kvs (sayB a) (rowL (rowsT (givT a b))) (rowL (rowsT (askT a b))) := by unfold visP; rw [if_pos ht]
    rw [ev1]
    refine ⟨met2, rl2, h2, ?_, P2, k2⟩
    have s5 : evalS W L (callF W L M) none (.for_ (.tp [7, 8, 9]) .seq [(.cal 14 [(.var 5)])] bodyV) [some (.ob pb), some (.int i), some (toD a), some (toD b), some (.bl (sayB a)), some (toD (askT a b)), some (toD (givT a b)), none, none, none, none] h =
        resS (goR nms kvs (sayB a) (rowL (rowsT (givT a b))) (rowL (rowsT (askT a b)))).2 [some (.ob pb), some (.int i), some (toD a), some (toD b), some (.bl (sayB a)), some (toD (askT a b)), some (toD (givT a b)), b7, b8, b9, b10] h2 := by
      have i5 : evalEs W (callF W L M) none [(.cal 14 [(.var 5)])] [some (.ob pb), some (.int i), some (toD a), some (toD b), some (.bl (sayB a)), some (toD (askT a b)), some (toD (givT a b)), none, none, none, none] h = .ok [.tup (rowsD (rowsT (askT a b)))] h := by simp [q_set, q_put, q_expr, q_ret, q_retN, q_ife, q_cons, q_nil, q_cst, q_bin, q_neg, q_cmp, q_and, q_or, q_not, q_eife, q_tup, q_lst, q_dic, q_ix, q_slc, q_cal, q_blt, q_enil, q_econs, q_met, q_fld, q_fset, r_for, r_lc, r_var, r_ix_ob, r_sl_ob, r_put_ob, r_len_ob, r_tup_ob, r_lst_ob, r_addl, r_app, r_it_ob, r_in_ob, r_nin_ob, r_fld, r_fset, r_isList_ob, optI, Rf.start, e2]
      rw [r_for, i5, R.stm_ok, r_it_tup, ofO_some, R.stm_ok]
      exact e3
    rw [s2, RS.then_nx, q_cons, s3, RS.then_nx, q_cons, s4, RS.then_nx, q_cons, s5]
    cases (goR nms kvs (sayB a) (rowL (rowsT (givT a b))) (rowL (rowsT (askT a b)))).2 with
    | none => simp [q_set, q_put, q_expr, q_ret, q_retN, q_ife, q_cons, q_nil, q_cst, q_bin, q_neg, q_cmp, q_and, q_or, q_not, q_eife, q_tup, q_lst, q_dic, q_ix, q_slc, q_cal, q_blt, q_enil, q_econs, q_met, q_fld, q_fset, r_for, r_lc, r_var, r_ix_ob, r_sl_ob, r_put_ob, r_len_ob, r_tup_ob, r_lst_ob, r_addl, r_app, r_it_ob, r_in_ob, r_nin_ob, r_fld, r_fset, r_isList_ob, optI, Rf.start, resS]
    | some d => simp [q_set, q_put, q_expr, q_ret, q_retN, q_ife, q_cons, q_nil, q_cst, q_bin, q_neg, q_cmp, q_and, q_or, q_not, q_eife, q_tup, q_lst, q_dic, q_ix, q_slc, q_cal, q_blt, q_enil, q_econs, q_met, q_fld, q_fset, r_for, r_lc, r_var, r_ix_ob, r_sl_ob, r_put_ob, r_len_ob, r_tup_ob, r_lst_ob, r_addl, r_app, r_it_ob, r_in_ob, r_nin_ob, r_fld, r_fset, r_isList_ob, optI, Rf.start, resS]
  · have ev1 : visP nms kvs (a, b) = ([], some (.tup [.str cD])) := by unfold visP; rw [if_neg ht]
    rw [ev1]
    refine ⟨met, rl, h, ?_, P, Ko.refl⟩
    have s2 : evalS W L (callF W L M) none (.ife (.cmp .ne (.ix (.var 2) (.cst (.int 0))) (.ix (.var 3) (.cst (.int 0)))) [.ret (.tup [(.cst (.str ['h', 'e', 'a', 'd']))])] []) [some (.ob pb), some (.int i), some (toD a), some (toD b), none, none, none, none, none, none, none] h = .ok (.rt (.tup [.str cD])) h := by
      rw [ea, eb]
      simp [q_set, q_put, q_expr, q_ret, q_retN, q_ife, q_cons, q_nil, q_cst, q_bin, q_neg, q_cmp, q_and, q_or, q_not, q_eife, q_tup, q_lst, q_dic, q_ix, q_slc, q_cal, q_blt, q_enil, q_econs, q_met, q_fld, q_fset, r_for, r_lc, r_var, r_ix_ob, r_sl_ob, r_put_ob, r_len_ob, r_tup_ob, r_lst_ob, r_addl, r_app, r_it_ob, r_in_ob, r_nin_ob, r_fld, r_fset, r_isList_ob, optI, Rf.start, atI_0, ht, sizeLine]
    rw [s2]
    simp [q_set, q_put, q_expr, q_ret, q_retN, q_ife, q_cons, q_nil, q_cst, q_bin, q_neg, q_cmp, q_and, q_or, q_not, q_eife, q_tup, q_lst, q_dic, q_ix, q_slc, q_cal, q_blt, q_enil, q_econs, q_met, q_fld, q_fset, r_for, r_lc, r_var, r_ix_ob, r_sl_ob, r_put_ob, r_len_ob, r_tup_ob, r_lst_ob, r_addl, r_app, r_it_ob, r_in_ob, r_nin_ob, r_fld, r_fset, r_isList_ob, optI, Rf.start]
noncomputable abbrev cT0 (W : Wd) (L N : Nat) : Sg → Hs → R Bool := fun σ h => (evalE W (callF W L N) none (.cmp .isn (.var 3) (.cst .non)) σ h).bind fun x h => truthR x h
abbrev bodyTp : List S := [.expr (.met (.var 2) "append" [(.var 4)]), .setT [3, 4] (.ix (.fld (.var 0) "_origins") (.var 3))]
theorem steps_loop (P : PD nms kvs V b0 pb o y nd m kn rc og vi met zt rl h) (M : Nat) (w : Nat) (hw0 : h.length ≤ w) (s1 : Option D) {k : Nat} {ps : List D} (hp : Pth zt k ps) : ∀ (Lf : Nat) (acc : List D) (pr : Pr) (od st : D) (h1 : Hs), ps.length + 1 ≤ Lf → acc.length + ps.length < sizeLine → zt[k]? = some (pr, .tup [od, st]) → Kx h h1 → (∀ (n : Nat) (mo : MO), n < h.length → h[n]? = some mo → h1[n]? = some mo) → h1[w]? = some (.lst acc) →
    ∃ (od' st' : D) (h2 : Hs), whileI (cT0 W L M) (evalB W L (callF W L M) none bodyTp) Lf [some (.ob pb), s1, some (.ob w), some od, some st] h1 = .ok (.nx [some (.ob pb), s1, some (.ob w), some od', some st']) h2 ∧ h2[w]? = some (.lst (acc ++ ps.reverse)) ∧ Kx h h2 := by
  induction hp with
  | @root k pr0 e =>
    intro Lf acc pr od st h1 hl ha hz kx _ hw
    rw [e] at hz; cases hz
    obtain ⟨l, rfl⟩ : ∃ l, Lf = l + 1 := ⟨Lf - 1, by omega⟩
    refine ⟨.non, .non, h1, ?_, by simpa using hw, kx⟩
    have c1 : cT0 W L M [some (.ob pb), s1, some (.ob w), some .non, some .non] h1 = .ok false h1 := by
      show (evalE W (callF W L M) none (.cmp .isn (.var 3) (.cst .non)) _ h1).bind (fun x h => truthR x h) = _
      simp [q_set, q_put, q_expr, q_ret, q_retN, q_ife, q_cons, q_nil, q_cst, q_bin, q_neg, q_cmp, q_and, q_or, q_not, q_eife, q_tup, q_lst, q_dic, q_ix, q_slc, q_cal, q_blt, q_enil, q_econs, q_met, q_fld, q_fset, r_for, r_lc, r_var, r_ix_ob, r_sl_ob, r_put_ob, r_len_ob, r_tup_ob, r_lst_ob, r_addl, r_app, r_it_ob, r_in_ob, r_nin_ob, r_fld, r_fset, r_isList_ob, optI, Rf.start]
    unfold whileI
    rw [c1, R.stm_ok]
    rfl
  | @step k j pr0 s ps e hj hps ih =>
    intro Lf acc pr od st h1 hl ha hz kx _ hw
    rw [e] at hz; cases hz
    simp only [List.length_append, List.length_singleton] at hl ha
    obtain ⟨l, rfl⟩ : ∃ l, Lf = l + 1 := ⟨Lf - 1, by omega⟩
    obtain ⟨f1, f2, f3, f4, f5⟩ := hasF_p hP
    have wl := lk_lt hw
    have hjl : j < zt.length := by have := (List.getElem?_eq_some_iff.mp e).1; omega
    -- the step behind
    obtain ⟨prj, od2, st2, ej⟩ : ∃ (prj : Pr) (od2 st2 : D), zt[j]? = some (prj, .tup [od2, st2]) := by
      cases hps with
      | root e' => exact ⟨_, _, _, e'⟩
      | step e' _ _ => exact ⟨_, _, _, e'⟩
    have k1 : Kx h (h1.set w (.lst (acc ++ [s]))) := ⟨by simpa using kx.1, fun n mo en => by
      rw [List.getElem?_set_ne (by have := lk_lt en; omega)]; exact kx.2 n mo en⟩
    have w1 : (h1.set w (.lst (acc ++ [s])))[w]? = some (.lst (acc ++ [s])) := by simp [wl]
    obtain ⟨od', st', h2, e9, w2, k2⟩ := ih l (acc ++ [s]) prj od2 st2 (h1.set w (.lst (acc ++ [s]))) (by omega) (by simp; omega) ej k1 (fun n mo _ en => k1.2 n mo en) w1
    refine ⟨od', st', h2, ?_, by rw [w2]; simp, k2⟩
    have c1 : cT0 W L M [some (.ob pb), s1, some (.ob w), some (.int j), some s] h1 = .ok true h1 := by
      show (evalE W (callF W L M) none (.cmp .isn (.var 3) (.cst .non)) _ h1).bind (fun x h => truthR x h) = _
      simp [q_set, q_put, q_expr, q_ret, q_retN, q_ife, q_cons, q_nil, q_cst, q_bin, q_neg, q_cmp, q_and, q_or, q_not, q_eife, q_tup, q_lst, q_dic, q_ix, q_slc, q_cal, q_blt, q_enil, q_econs, q_met, q_fld, q_fset, r_for, r_lc, r_var, r_ix_ob, r_sl_ob, r_put_ob, r_len_ob, r_tup_ob, r_lst_ob, r_addl, r_app, r_it_ob, r_in_ob, r_nin_ob, r_fld, r_fset, r_isList_ob, optI, Rf.start]
    have g1 := k1.2 _ _ P.ob
    have g2 := k1.2 _ _ P.gb
    have i2 : atI (zt.map (·.2)) (j : Int) = some (.tup [od2, st2]) := by
      rw [atI_nat (by simpa using hjl)]
      have := (List.getElem?_eq_some_iff.mp ej).2
      simp [this]
    have hal : acc.length < 16777216 := by simp only [sizeLine] at ha; omega
    have a1 : evalS W L (callF W L M) none (.expr (.met (.var 2) "append" [(.var 4)])) [some (.ob pb), s1, some (.ob w), some (.int j), some s] h1 = .ok (.nx [some (.ob pb), s1, some (.ob w), some (.int j), some s]) (h1.set w (.lst (acc ++ [s]))) := by
      simp [q_set, q_put, q_expr, q_ret, q_retN, q_ife, q_cons, q_nil, q_cst, q_bin, q_neg, q_cmp, q_and, q_or, q_not, q_eife, q_tup, q_lst, q_dic, q_ix, q_slc, q_cal, q_blt, q_enil, q_econs, q_met, q_fld, q_fset, r_for, r_lc, r_var, r_ix_ob, r_sl_ob, r_put_ob, r_len_ob, r_tup_ob, r_lst_ob, r_addl, r_app, r_it_ob, r_in_ob, r_nin_ob, r_fld, r_fset, r_isList_ob, optI, Rf.start, r_metapp hw, hw, hal, sizeLine]
    have a2 : evalS W L (callF W L M) none (.setT [3, 4] (.ix (.fld (.var 0) "_origins") (.var 3))) [some (.ob pb), s1, some (.ob w), some (.int j), some s] (h1.set w (.lst (acc ++ [s]))) = .ok (.nx [some (.ob pb), s1, some (.ob w), some od2, some st2]) (h1.set w (.lst (acc ++ [s]))) := by
      generalize (h1.set w (.lst (acc ++ [s]))) = H at g1 g2 ⊢
      simp [q_set, q_put, q_expr, q_ret, q_retN, q_ife, q_cons, q_nil, q_cst, q_bin, q_neg, q_cmp, q_and, q_or, q_not, q_eife, q_tup, q_lst, q_dic, q_ix, q_slc, q_cal, q_blt, q_enil, q_econs, q_met, q_fld, q_fset, r_for, r_lc, r_var, r_ix_ob, r_sl_ob, r_put_ob, r_len_ob, r_tup_ob, r_lst_ob, r_addl, r_app, r_it_ob, r_in_ob, r_nin_ob, r_fld, r_fset, r_isList_ob, optI, Rf.start, q_setT, g1, f4, g2, i2, List.lookup]
    have b1 : evalB W L (callF W L M) none bodyTp [some (.ob pb), s1, some (.ob w), some (.int j), some s] h1 = .ok (.nx [some (.ob pb), s1, some (.ob w), some od2, some st2]) (h1.set w (.lst (acc ++ [s]))) := by
      rw [q_cons, a1, RS.then_nx, q_cons, a2, RS.then_nx, q_nil]
    unfold whileI
    rw [c1, R.stm_ok, if_pos rfl, b1]
    exact e9
theorem steps_to_ok (U : Uni nms kvs V) (P : PD nms kvs V b0 pb o y nd m kn rc og vi met zt rl h) (N : Nat) (hN : 2 ≤ N) (hL : 16000002 ≤ L) {k : Nat} {ps : List D} (hk : k < zt.length) (hp : Pth zt k ps) :
    ∃ h' : Hs, callF W L N 34 [.ob pb, .int k] h = .ok (.tup ps) h' ∧ Kx h h' := by
  obtain ⟨M, rfl⟩ : ∃ M, N = M + 1 := ⟨N - 1, by omega⟩
  rw [callF_s (hW 34 _ (by decide) rfl) rfl]
  obtain ⟨f1, f2, f3, f4, f5⟩ := hasF_p hP
  have hz := P.len U
  have hl := hp.len
  obtain ⟨prk, od, st, ek⟩ : ∃ (prk : Pr) (od st : D), zt[k]? = some (prk, .tup [od, st]) := by
    cases hp with
    | root e' => exact ⟨_, _, _, e'⟩
    | step e' _ _ => exact ⟨_, _, _, e'⟩
  have g1 : (h ++ [MO.lst []])[pb]? = _ := lk_app P.ob
  have g2 : (h ++ [MO.lst []])[og]? = _ := lk_app P.gb
  have i2 : atI (zt.map (·.2)) (k : Int) = some (.tup [od, st]) := by
    rw [atI_nat (by simpa using hk)]
    have := (List.getElem?_eq_some_iff.mp ek).2
    simp [this]
  obtain ⟨od', st', h2, e9, w2, k2⟩ := steps_loop hW hC hP L P M h.length (Nat.le_refl _) (some (.int k)) hp L [] prk od st (h ++ [.lst []]) (by omega) (by simp only [List.length_nil, sizeLine]; omega) ek Kx.app (fun n mo _ e => lk_app e) lk_new
  rw [List.nil_append] at w2
  refine ⟨h2 ++ [.lst ps], ?_, k2.trans Kx.app⟩
  have eb : f_Pairs_steps_to.body = [.set 2 (.lst []), .setT [3, 4] (.ix (.fld (.var 0) "_origins") (.var 1)), .whl (.cmp .isn (.var 3) (.cst .non)) bodyTp, .ret (.blt .tuple [(.back (.var 2))])] := rfl
  have es : Rf.start f_Pairs_steps_to.ns [D.ob pb, D.int k] = [some (.ob pb), some (.int k), none, none, none] := rfl
  rw [eb, es]
  have s1 : evalS W L (callF W L M) none (.set 2 (.lst [])) [some (.ob pb), some (.int k), none, none, none] h = .ok (.nx [some (.ob pb), some (.int k), some (.ob h.length), none, none]) (h ++ [.lst []]) := by simp [q_set, q_put, q_expr, q_ret, q_retN, q_ife, q_cons, q_nil, q_cst, q_bin, q_neg, q_cmp, q_and, q_or, q_not, q_eife, q_tup, q_lst, q_dic, q_ix, q_slc, q_cal, q_blt, q_enil, q_econs, q_met, q_fld, q_fset, r_for, r_lc, r_var, r_ix_ob, r_sl_ob, r_put_ob, r_len_ob, r_tup_ob, r_lst_ob, r_addl, r_app, r_it_ob, r_in_ob, r_nin_ob, r_fld, r_fset, r_isList_ob, optI, Rf.start, sizeLine]
  have s2 : evalS W L (callF W L M) none (.setT [3, 4] (.ix (.fld (.var 0) "_origins") (.var 1))) [some (.ob pb), some (.int k), some (.ob h.length), none, none] (h ++ [.lst []]) = .ok (.nx [some (.ob pb), some (.int k), some (.ob h.length), some od, some st]) (h ++ [.lst []]) := by
    simp [q_set, q_put, q_expr, q_ret, q_retN, q_ife, q_cons, q_nil, q_cst, q_bin, q_neg, q_cmp, q_and, q_or, q_not, q_eife, q_tup, q_lst, q_dic, q_ix, q_slc, q_cal, q_blt, q_enil, q_econs, q_met, q_fld, q_fset, r_for, r_lc, r_var, r_ix_ob, r_sl_ob, r_put_ob, r_len_ob, r_tup_ob, r_lst_ob, r_addl, r_app, r_it_ob, r_in_ob, r_nin_ob, r_fld, r_fset, r_isList_ob, optI, Rf.start, q_setT, g1, f4, g2, i2, List.lookup]
  have s3 : ∀ X, evalS W L (callF W L M) none (.whl (.cmp .isn (.var 3) (.cst .non)) X) [some (.ob pb), some (.int k), some (.ob h.length), some od, some st] (h ++ [.lst []]) = whileI (cT0 W L M) (evalB W L (callF W L M) none X) L [some (.ob pb), some (.int k), some (.ob h.length), some od, some st] (h ++ [.lst []]) := fun X => r_whl
  rw [q_cons, s1, RS.then_nx, q_cons, s2, RS.then_nx, q_cons, s3, e9, RS.then_nx, q_cons, q_ret, q_blt, q_econs]
  have b1 : evalE W (callF W L M) none (.back (.var 2)) [some (.ob pb), some (.int k), some (.ob h.length), some od', some st'] h2 = .ok (.ob h2.length) (h2 ++ [.lst ps]) := by
    rw [q_back, r_var]
    show backO h2[h.length]? h2 = _
    rw [w2, backO_l, List.reverse_reverse]
  have ln : (h2 ++ [MO.lst ps])[h2.length]? = some (.lst ps) := lk_new
  rw [b1]
  simp [q_set, q_put, q_expr, q_ret, q_retN, q_ife, q_cons, q_nil, q_cst, q_bin, q_neg, q_cmp, q_and, q_or, q_not, q_eife, q_tup, q_lst, q_dic, q_ix, q_slc, q_cal, q_blt, q_enil, q_econs, q_met, q_fld, q_fset, r_for, r_lc, r_var, r_ix_ob, r_sl_ob, r_put_ob, r_len_ob, r_tup_ob, r_lst_ob, r_addl, r_app, r_it_ob, r_in_ob, r_nin_ob, r_fld, r_fset, r_isList_ob, optI, Rf.start, ln]
end
end K13
end

section
namespace K13
open PySem PySem.Spec PyProof.Rows L2 Rf
theorem rowP_tup {nms : List (List Char)} {kvs : List (D × D)} {says : Bool} {g : List (List Char × D × T)} {x : List Char × D × T} {d : D} (h : (rowP nms kvs says g x).2 = some d) : ∃ xs, d = .tup xs := by
  unfold rowP at h
  split at h
  · cases h; exact ⟨_, rfl⟩
  · split at h
    · cases h
    · split at h
      · cases h
      · cases h; exact ⟨_, rfl⟩
theorem goR_tup {nms : List (List Char)} {kvs : List (D × D)} {says : Bool} {g : List (List Char × D × T)} : ∀ {rows : List (List Char × D × T)} {d : D}, (goR nms kvs says g rows).2 = some d → ∃ xs, d = .tup xs
  | [], d, h => by simp [goR] at h
  | x :: r, d, h => by
    simp only [goR] at h
    split at h
    · rename_i d' e
      cases h; exact rowP_tup e
    · exact goR_tup h
theorem visP_tup {nms : List (List Char)} {kvs : List (D × D)} {pr : Pr} {d : D} (h : (visP nms kvs pr).2 = some d) : ∃ xs, d = .tup xs := by
  unfold visP at h
  split at h
  · exact goR_tup h
  · cases h; exact ⟨_, rfl⟩
section
variable {nms : List (List Char)} {kvs : List (D × D)} {V : List T} {b0 pb o y nd m kn rc og vi : Nat} {met : List T} {zt : St} {rl : List (Nat × Nat)} {h h' : Hs}
variable {W : Wd} (hW : Has W) (hC : HasC W) (hP : HasP W) (L : Nat)
include hP hC hW
/-- Pairs(table) -/
theorem pnew_ok (U : Uni nms kvs V) (N : Nat) (hN : 16 ≤ N) (hL : 10 ≤ L) (h : Hs) (hy : h[y]? = some (.dic false false kvs)) :
    ∃ (o nd m kn rc og : Nat) (h' : Hs), ((callF W L N 29 [.ob h.length, .ob y] (h ++ [.ins 1 []])).bind (newK h.length)) = .ok (.ob h.length) h' ∧
      PD nms kvs V h.length h.length o y nd m kn rc og 0 [] [] [] h' ∧ Kx h h' := by
  obtain ⟨M, rfl⟩ : ∃ M, N = M + 1 := ⟨N - 1, by omega⟩
  obtain ⟨f1, f2, f3, f4, f5⟩ := hasF_p hP
  have yl := lk_lt hy
  obtain ⟨H0, eH⟩ : ∃ H0, H0 = h ++ [MO.ins 1 []] := ⟨_, rfl⟩
  rw [← eH]
  have yH : H0[y]? = some (.dic false false kvs) := by rw [eH]; exact lk_app hy
  have pb0 : H0[h.length]? = some (.ins 1 []) := by rw [eH]; exact lk_new
  have kH : ∀ (i : Nat) (mo : MO), h[i]? = some mo → H0[i]? = some mo := fun i mo e => by rw [eH]; exact lk_app e
  have l0 : H0.length = h.length + 1 := by rw [eH]; simp
  obtain ⟨h1, e1, H1, k1⟩ := new_ok hW hC L (nms := nms) (V := V) M (by omega) H0 y yH
  rw [l0] at H1 e1
  have pb1 : h1[h.length]? = some (.ins 1 []) := k1.2 _ _ pb0
  have pl1 := lk_lt pb1
  have ml := lk_lt H1.mt
  obtain ⟨ha, eha⟩ : ∃ ha, ha = h1.set h.length (.ins 1 [("_heads", .ob (h.length + 1))]) := ⟨_, rfl⟩
  have la : ha.length = h1.length := by rw [eha]; simp
  have pba : ha[h.length]? = some (.ins 1 [("_heads", .ob (h.length + 1))]) := by rw [eha, List.getElem?_set_self pl1]
  obtain ⟨hb, ehb⟩ : ∃ hb, hb = (ha ++ [MO.dic false true []]).set h.length (.ins 1 [("_heads", .ob (h.length + 1)), ("_known", .ob ha.length)]) := ⟨_, rfl⟩
  have lb : hb.length = h1.length + 1 := by rw [ehb]; simp [la]
  have pbb : hb[h.length]? = some (.ins 1 [("_heads", .ob (h.length + 1)), ("_known", .ob ha.length)]) := by rw [ehb, List.getElem?_set_self (by simp; omega)]
  obtain ⟨hc, ehc⟩ : ∃ hc, hc = (hb ++ [MO.lst []]).set h.length (.ins 1 [("_heads", .ob (h.length + 1)), ("_known", .ob ha.length), ("_reached", .ob hb.length)]) := ⟨_, rfl⟩
  have lc : hc.length = h1.length + 2 := by rw [ehc]; simp [lb]
  have pbc : hc[h.length]? = some (.ins 1 [("_heads", .ob (h.length + 1)), ("_known", .ob ha.length), ("_reached", .ob hb.length)]) := by rw [ehc, List.getElem?_set_self (by simp; omega)]
  obtain ⟨he, ehe⟩ : ∃ he, he = (hc ++ [MO.lst []]).set h.length (.ins 1 [("_heads", .ob (h.length + 1)), ("_known", .ob ha.length), ("_reached", .ob hb.length), ("_origins", .ob hc.length)]) := ⟨_, rfl⟩
  have pbe : he[h.length]? = some (.ins 1 [("_heads", .ob (h.length + 1)), ("_known", .ob ha.length), ("_reached", .ob hb.length), ("_origins", .ob hc.length)]) := by rw [ehe, List.getElem?_set_self (by simp; omega)]
  obtain ⟨hf, ehf⟩ : ∃ hf, hf = he.set h.length (.ins 1 [("_heads", .ob (h.length + 1)), ("_known", .ob ha.length), ("_reached", .ob hb.length), ("_origins", .ob hc.length), ("_visited", .int 0)]) := ⟨_, rfl⟩
  have le : he.length = h1.length + 3 := by rw [ehe]; simp [lc]
  have pbf : hf[h.length]? = some (.ins 1 [("_heads", .ob (h.length + 1)), ("_known", .ob ha.length), ("_reached", .ob hb.length), ("_origins", .ob hc.length), ("_visited", .int 0)]) := by rw [ehf, List.getElem?_set_self (by omega)]
  have kf : ∀ (i : Nat) (mo : MO), i ≠ h.length → he[i]? = some mo → hf[i]? = some mo := fun i mo hi e => by rw [ehf, List.getElem?_set_ne (Ne.symm hi)]; exact e
  have keep : ∀ (i : Nat) (mo : MO), i ≠ h.length → h1[i]? = some mo → he[i]? = some mo := by
    intro i mo hi e
    have il := lk_lt e
    rw [ehe, List.getElem?_set_ne (Ne.symm hi), List.getElem?_append_left (by omega), ehc, List.getElem?_set_ne (Ne.symm hi), List.getElem?_append_left (by omega), ehb, List.getElem?_set_ne (Ne.symm hi), List.getElem?_append_left (by omega), eha, List.getElem?_set_ne (Ne.symm hi)]
    exact e
  have kn : he[ha.length]? = some (.dic false true []) := by
    rw [ehe, List.getElem?_set_ne (by omega), List.getElem?_append_left (by omega), ehc, List.getElem?_set_ne (by omega), List.getElem?_append_left (by omega), ehb, List.getElem?_set_ne (by omega)]
    exact lk_new
  have rc : he[hb.length]? = some (.lst []) := by
    rw [ehe, List.getElem?_set_ne (by omega), List.getElem?_append_left (by omega), ehc, List.getElem?_set_ne (by omega)]
    exact lk_new
  have og : he[hc.length]? = some (.lst []) := by
    rw [ehe, List.getElem?_set_ne (by omega)]
    exact lk_new
  have P0 : PD nms kvs V h.length h.length (h.length + 1) y (h.length + 1 + 1) (h.length + 1 + 2) ha.length hb.length hc.length 0 [] [] [] hf := by
    refine ⟨pbf, H1.keep fun i mo hi e => kf i mo (by omega) (keep i mo (by omega) e), kf _ _ (by omega) kn, kf _ _ (by omega) rc, kf _ _ (by omega) og, rfl, by simp, by simp, by simp, by simp, ?_, by omega, by omega, by omega, by omega, by omega, by omega, by omega⟩
    have : ([h.length, h.length + 1, y, h.length + 1 + 1, h.length + 1 + 2, ha.length, hb.length, hc.length] : List Nat).Nodup := by
      rw [la, lb, lc]
      simp only [List.nodup_cons, List.mem_cons, List.not_mem_nil, or_false, not_or, not_false_eq_true, List.nodup_nil, and_true]
      omega
    exact this
  refine ⟨_, _, _, _, _, _, hf, ?_, P0, ?_⟩
  · rw [callF_s (hW 29 _ (by decide) rfl) rfl]
    have es : Rf.start f_Pairs_init.ns [D.ob h.length, D.ob y] = [some (.ob h.length), some (.ob y)] := rfl
    rw [es]
    unfold f_Pairs_init
    have s1 : evalS W L (callF W L M) none (.fset (.var 0) "_heads" (.new 0 [(.var 1)])) [some (.ob h.length), some (.ob y)] H0 = .ok (.nx [some (.ob h.length), some (.ob y)]) ha := by
      rw [eha]
      simp [q_set, q_put, q_expr, q_ret, q_retN, q_ife, q_cons, q_nil, q_cst, q_bin, q_neg, q_cmp, q_and, q_or, q_not, q_eife, q_tup, q_lst, q_dic, q_ix, q_slc, q_cal, q_blt, q_enil, q_econs, q_met, q_fld, q_fset, r_for, r_lc, r_var, r_ix_ob, r_sl_ob, r_put_ob, r_len_ob, r_tup_ob, r_lst_ob, r_addl, r_app, r_it_ob, r_in_ob, r_nin_ob, r_fld, r_fset, r_isList_ob, optI, Rf.start, q_new hC rfl, l0, e1, pb1, f1, fput]
    have s2 : evalS W L (callF W L M) none (.fset (.var 0) "_known" (.dic true [] [])) [some (.ob h.length), some (.ob y)] ha = .ok (.nx [some (.ob h.length), some (.ob y)]) hb := by
      have g : (ha ++ [MO.dic false true []])[h.length]? = _ := lk_app pba
      rw [ehb]
      simp [q_set, q_put, q_expr, q_ret, q_retN, q_ife, q_cons, q_nil, q_cst, q_bin, q_neg, q_cmp, q_and, q_or, q_not, q_eife, q_tup, q_lst, q_dic, q_ix, q_slc, q_cal, q_blt, q_enil, q_econs, q_met, q_fld, q_fset, r_for, r_lc, r_var, r_ix_ob, r_sl_ob, r_put_ob, r_len_ob, r_tup_ob, r_lst_ob, r_addl, r_app, r_it_ob, r_in_ob, r_nin_ob, r_fld, r_fset, r_isList_ob, optI, Rf.start, g, f2, fput]
    have s3 : evalS W L (callF W L M) none (.fset (.var 0) "_reached" (.lst [])) [some (.ob h.length), some (.ob y)] hb = .ok (.nx [some (.ob h.length), some (.ob y)]) hc := by
      have g : (hb ++ [MO.lst []])[h.length]? = _ := lk_app pbb
      rw [ehc]
      simp [q_set, q_put, q_expr, q_ret, q_retN, q_ife, q_cons, q_nil, q_cst, q_bin, q_neg, q_cmp, q_and, q_or, q_not, q_eife, q_tup, q_lst, q_dic, q_ix, q_slc, q_cal, q_blt, q_enil, q_econs, q_met, q_fld, q_fset, r_for, r_lc, r_var, r_ix_ob, r_sl_ob, r_put_ob, r_len_ob, r_tup_ob, r_lst_ob, r_addl, r_app, r_it_ob, r_in_ob, r_nin_ob, r_fld, r_fset, r_isList_ob, optI, Rf.start, g, f3, fput, sizeLine]
    have s4 : evalS W L (callF W L M) none (.fset (.var 0) "_origins" (.lst [])) [some (.ob h.length), some (.ob y)] hc = .ok (.nx [some (.ob h.length), some (.ob y)]) he := by
      have g : (hc ++ [MO.lst []])[h.length]? = _ := lk_app pbc
      rw [ehe]
      simp [q_set, q_put, q_expr, q_ret, q_retN, q_ife, q_cons, q_nil, q_cst, q_bin, q_neg, q_cmp, q_and, q_or, q_not, q_eife, q_tup, q_lst, q_dic, q_ix, q_slc, q_cal, q_blt, q_enil, q_econs, q_met, q_fld, q_fset, r_for, r_lc, r_var, r_ix_ob, r_sl_ob, r_put_ob, r_len_ob, r_tup_ob, r_lst_ob, r_addl, r_app, r_it_ob, r_in_ob, r_nin_ob, r_fld, r_fset, r_isList_ob, optI, Rf.start, g, f4, fput, sizeLine]
    have s5 : evalS W L (callF W L M) none (.fset (.var 0) "_visited" (.cst (.int 0))) [some (.ob h.length), some (.ob y)] he = .ok (.nx [some (.ob h.length), some (.ob y)]) hf := by
      rw [ehf]
      simp [q_set, q_put, q_expr, q_ret, q_retN, q_ife, q_cons, q_nil, q_cst, q_bin, q_neg, q_cmp, q_and, q_or, q_not, q_eife, q_tup, q_lst, q_dic, q_ix, q_slc, q_cal, q_blt, q_enil, q_econs, q_met, q_fld, q_fset, r_for, r_lc, r_var, r_ix_ob, r_sl_ob, r_put_ob, r_len_ob, r_tup_ob, r_lst_ob, r_addl, r_app, r_it_ob, r_in_ob, r_nin_ob, r_fld, r_fset, r_isList_ob, optI, Rf.start, pbe, f5, fput]
    rw [q_cons, s1, RS.then_nx, q_cons, s2, RS.then_nx, q_cons, s3, RS.then_nx, q_cons, s4, RS.then_nx, q_cons, s5, RS.then_nx]
    simp [q_set, q_put, q_expr, q_ret, q_retN, q_ife, q_cons, q_nil, q_cst, q_bin, q_neg, q_cmp, q_and, q_or, q_not, q_eife, q_tup, q_lst, q_dic, q_ix, q_slc, q_cal, q_blt, q_enil, q_econs, q_met, q_fld, q_fset, r_for, r_lc, r_var, r_ix_ob, r_sl_ob, r_put_ob, r_len_ob, r_tup_ob, r_lst_ob, r_addl, r_app, r_it_ob, r_in_ob, r_nin_ob, r_fld, r_fset, r_isList_ob, optI, Rf.start]
  · refine ⟨by have := lk_lt pbf; omega, fun i mo e => kf i mo (by have := lk_lt e; omega) (keep i mo (by have := lk_lt e; omega) (k1.2 _ _ (kH _ _ e)))⟩
theorem begin_ok (U : Uni nms kvs V) (P : PD nms kvs V b0 pb o y nd m kn rc og vi met zt rl h) (N : Nat) (hN : 15 ≤ N) (hL : 10 ≤ L) {t u : T} (ht : t ∈ V) (hu : u ∈ V) :
    ∃ (met' : List T) (rl' : List (Nat × Nat)) (h' : Hs), callF W L N 30 [.ob pb, toD t, toD u] h = .ok .non h' ∧ PD nms kvs V b0 pb o y nd m kn rc og vi met' (addS zt (hd nms kvs t, hd nms kvs u) (.tup [.non, .non])) rl' h' ∧ Ko [pb, nd, m, kn, rc, og] h h' := by
  obtain ⟨M, rfl⟩ : ∃ M, N = M + 1 := ⟨N - 1, by omega⟩
  rw [callF_s (hW 30 _ (by decide) rfl) rfl]
  obtain ⟨met', rl', h', e, P', k⟩ := reach_ok hW hC hP L U P M (by omega) hL ht hu .non .non
  refine ⟨met', rl', h', ?_, P', k⟩
  simp [q_set, q_put, q_expr, q_ret, q_retN, q_ife, q_cons, q_nil, q_cst, q_bin, q_neg, q_cmp, q_and, q_or, q_not, q_eife, q_tup, q_lst, q_dic, q_ix, q_slc, q_cal, q_blt, q_enil, q_econs, q_met, q_fld, q_fset, r_for, r_lc, r_var, r_ix_ob, r_sl_ob, r_put_ob, r_len_ob, r_tup_ob, r_lst_ob, r_addl, r_app, r_it_ob, r_in_ob, r_nin_ob, r_fld, r_fset, r_isList_ob, optI, Rf.start, f_Pairs_begin, met_re hW hC hP P, e]
omit hP hC hW in
theorem PD.okn {h1 h2 : Hs} (P : PD nms kvs V b0 pb o y nd m kn rc og vi met zt rl h) (k : Ko [pb, nd, m, kn, rc, og] h1 h2) : Kn b0 h1 h2 := k.kn fun i hi => by
  have lo := P.lo
  simp only [List.mem_cons, List.not_mem_nil, or_false] at hi
  rcases hi with rfl | rfl | rfl | rfl | rfl | rfl <;> omega
/-- the search, whatever a visit is -/
inductive SrG (vis : Pr → List Ps × Option D) : St → Nat → Option (Nat × D) → St → Prop where
  | done {zt : St} : SrG vis zt zt.length none zt
  | bad {zt : St} {i : Nat} {pr : Pr} {od d : D} (e : zt[i]? = some (pr, od)) (b : (vis pr).2 = some d) : SrG vis zt i (some (i, d)) (addsS i zt (vis pr).1)
  | step {zt zt' : St} {i : Nat} {pr : Pr} {od : D} {res : Option (Nat × D)} (e : zt[i]? = some (pr, od)) (b : (vis pr).2 = none) (h : SrG vis (addsS i zt (vis pr).1) (i + 1) res zt') : SrG vis zt i res zt'
omit hP hC hW in
theorem SrG.sr {zt zt' : St} {i : Nat} {res : Option (Nat × D)} (h : SrG (visP nms kvs) zt i res zt') : Sr nms kvs zt i res zt' := by
  induction h with
  | done => exact .done
  | bad e b => exact .bad e b
  | step e b _ ih => exact .step e b ih
abbrev testW : E := .cmp .lt (.fld (.var 0) "_visited") (.blt .len [(.fld (.var 0) "_reached")])
noncomputable abbrev cW0 (W : Wd) (L N : Nat) (cx : CXI) : Sg → Hs → R Bool := fun σ h => (evalE W (callF W L N) cx testW σ h).bind fun x h => truthR x h
abbrev bodyW : List S := [.set 2 (.cvl 1 [(.fld (.var 0) "_visited")]),
    .ife (.cmp .isn (.var 2) (.cst .non))
      [.ret (.tup [(.met (.var 0) "_steps_to" [(.fld (.var 0) "_visited")]), (.var 2)])]
      [],
    .faug (.var 0) "_visited" .add (.cst (.int 1))]
def WOut (pb : Nat) (res : Option (Nat × D)) (zt : St) (r : RS) (h : Hs) : Prop := match res with
  | none => ∃ s2 : Option D, r = .ok (.nx [some (.ob pb), none, s2]) h
  | some (k, d) => ∃ ps : List D, Pth zt k ps ∧ r = .ok (.rt (.tup [.tup ps, d])) h
/-- what leans on other objects alone -/
def Off (own : List Nat) (J : Hs → Prop) : Prop := ∀ h h', J h → (∀ (n : Nat) (mo : MO), n ∉ own → h[n]? = some mo → h'[n]? = some mo) → J h'
/-- what a visit does -/
def VisOk (W : Wd) (L M : Nat) (nms : List (List Char)) (kvs : List (D × D)) (V : List T) (b0 pb o y nd m kn rc og : Nat) (vis : Pr → List Ps × Option D) (j : Nat) (caps : List D) (J : Hs → Prop) : Prop :=
  ∀ (i vi : Nat) (met : List T) (zt : St) (rl : List (Nat × Nat)) (h : Hs) (z : Pr × D), PD nms kvs V b0 pb o y nd m kn rc og vi met zt rl h → J h → zt[i]? = some z →
    ∃ (met' : List T) (rl' : List (Nat × Nat)) (h' : Hs), callF W L M j (caps ++ [.int i]) h = .ok ((vis z.1).2.getD .non) h' ∧ PD nms kvs V b0 pb o y nd m kn rc og vi met' (addsS i zt (vis z.1).1) rl' h' ∧ J h' ∧ Kn b0 h h'
theorem first_loop (U : Uni nms kvs V) (M : Nat) (hM : 17 ≤ M) (hL : 16000002 ≤ L) {vis : Pr → List Ps × Option D} (hvt : ∀ pr d, (vis pr).2 = some d → ∃ xs, d = .tup xs) {j : Nat} {caps : List D} {J : Hs → Prop} (hJ : Off [pb, nd, m, kn, rc, og] J)
    (hv : VisOk W L M nms kvs V b0 pb o y nd m kn rc og vis j caps J) : ∀ (Lf i : Nat) {met : List T} {zt : St} {rl : List (Nat × Nat)} {h : Hs} (s2 : Option D), 16000001 - i ≤ Lf → i ≤ zt.length → PD nms kvs V b0 pb o y nd m kn rc og i met zt rl h → Ch zt → J h →
    ∃ (res : Option (Nat × D)) (zt' : St) (met' : List T) (rl' : List (Nat × Nat)) (vi' : Nat) (h' : Hs), SrG vis zt i res zt' ∧ WOut pb res zt' (whileI (cW0 W L M (some (j, caps.map fun d => ("", d)))) (evalB W L (callF W L M) (some (j, caps.map fun d => ("", d))) bodyW) Lf [some (.ob pb), none, s2] h) h' ∧
      PD nms kvs V b0 pb o y nd m kn rc og vi' met' zt' rl' h' ∧ (res = none → vi' = zt'.length) ∧ Ch zt' ∧ J h' ∧ Kn b0 h h' := by
  have hcaps : (caps.map fun d => (("", d) : String × D)).map (·.2) = caps := by rw [List.map_map]; exact (List.map_congr_left fun _ _ => rfl).trans (List.map_id _)
  obtain ⟨f1, f2, f3, f4, f5⟩ := hasF_p hP
  intro Lf
  induction Lf with
  | zero =>
    intro i met zt rl h s2 hl hi P hc hj
    have := P.len U
    omega
  | succ Lf ih =>
    intro i met zt rl h s2 hl hi P hc hj
    have hz := P.len U
    have g0 := P.ob
    have g1 := P.rb
    have g2 := P.ln
    have gi : evalE W (callF W L M) none (.fld (.var 0) "_visited") [some (.ob pb), none, s2] h = .ok (.int i) h := by
      simp [q_set, q_put, q_expr, q_ret, q_retN, q_ife, q_cons, q_nil, q_cst, q_bin, q_neg, q_cmp, q_and, q_or, q_not, q_eife, q_tup, q_lst, q_dic, q_ix, q_slc, q_cal, q_blt, q_enil, q_econs, q_met, q_fld, q_fset, r_for, r_lc, r_var, r_ix_ob, r_sl_ob, r_put_ob, r_len_ob, r_tup_ob, r_lst_ob, r_addl, r_app, r_it_ob, r_in_ob, r_nin_ob, r_fld, r_fset, r_isList_ob, optI, Rf.start, g0, f5, List.lookup]
    have ct : cW0 W L M (some (j, caps.map fun d => ("", d))) [some (.ob pb), none, s2] h = .ok (decide (i < zt.length)) h := by
      show (evalE W (callF W L M) (some (j, caps.map fun d => ("", d))) testW _ h).bind (fun x h => truthR x h) = _
      rw [e_cx _ rfl]
      simp [q_set, q_put, q_expr, q_ret, q_retN, q_ife, q_cons, q_nil, q_cst, q_bin, q_neg, q_cmp, q_and, q_or, q_not, q_eife, q_tup, q_lst, q_dic, q_ix, q_slc, q_cal, q_blt, q_enil, q_econs, q_met, q_fld, q_fset, r_for, r_lc, r_var, r_ix_ob, r_sl_ob, r_put_ob, r_len_ob, r_tup_ob, r_lst_ob, r_addl, r_app, r_it_ob, r_in_ob, r_nin_ob, r_fld, r_fset, r_isList_ob, optI, Rf.start, testW, g0, f5, f3, g1, g2, List.lookup]
    by_cases hlt : i < zt.length
    · rw [decide_eq_true hlt] at ct
      obtain ⟨z, hzi⟩ : ∃ z, zt[i]? = some z := ⟨zt[i], by simp [hlt]⟩
      obtain ⟨met1, rl1, h1, e2, P1, j1, k1⟩ := hv i i met zt rl h z P hj hzi
      have hc1 := hc.adds (vis z.1).1 hlt
      have a1 : evalS W L (callF W L M) (some (j, caps.map fun d => ("", d))) (.set 2 (.cvl 1 [(.fld (.var 0) "_visited")])) [some (.ob pb), none, s2] h = .ok (.nx [some (.ob pb), none, some ((vis z.1).2.getD .non)]) h1 := by
        rw [q_set, q_cvl, show ([some (D.ob pb), none, s2] : Sg)[1]? = some none from rfl, cvlK_n, es_cx _ rfl, q_econs, gi, R.bind_ok, q_enil, R.bind_ok, R.bind_ok, hcaps, e2]
        rfl
      obtain ⟨pr, od⟩ := z
      have pre := addsS_pre i (vis pr).1 zt
      have p0 := P1.ob
      cases hr : (vis pr).2 with
      | some d =>
        obtain ⟨xs, rfl⟩ := hvt pr d hr
        have hil : i < (addsS i zt (vis pr).1).length := by
          obtain ⟨b, e⟩ := pre
          rw [e, List.length_append]; omega
        obtain ⟨ps, hp⟩ := hc1.pth i hil
        obtain ⟨h2, e3, k3⟩ := steps_to_ok hW hC hP L U P1 M (by omega) hL hil hp
        refine ⟨some (i, .tup xs), _, met1, rl1, i, h2, .bad hzi hr, ⟨ps, hp, ?_⟩, P1.kx k3, (fun q => by cases q), hc1, hJ _ _ j1 (fun n mo _ e => k3.2 n mo e), k1.trans k3.kn⟩
        have c1 : evalE W (callF W L M) none (.cmp .isn (.var 2) (.cst .non)) [some (.ob pb), none, some (.tup xs)] h1 = .ok (.bl true) h1 := by simp [q_set, q_put, q_expr, q_ret, q_retN, q_ife, q_cons, q_nil, q_cst, q_bin, q_neg, q_cmp, q_and, q_or, q_not, q_eife, q_tup, q_lst, q_dic, q_ix, q_slc, q_cal, q_blt, q_enil, q_econs, q_met, q_fld, q_fset, r_for, r_lc, r_var, r_ix_ob, r_sl_ob, r_put_ob, r_len_ob, r_tup_ob, r_lst_ob, r_addl, r_app, r_it_ob, r_in_ob, r_nin_ob, r_fld, r_fset, r_isList_ob, optI, Rf.start]
        have c2 : evalS W L (callF W L M) none (.ret (.tup [(.met (.var 0) "_steps_to" [(.fld (.var 0) "_visited")]), (.var 2)])) [some (.ob pb), none, some (.tup xs)] h1 = .ok (.rt (.tup [.tup ps, .tup xs])) h2 := by
          simp [q_set, q_put, q_expr, q_ret, q_retN, q_ife, q_cons, q_nil, q_cst, q_bin, q_neg, q_cmp, q_and, q_or, q_not, q_eife, q_tup, q_lst, q_dic, q_ix, q_slc, q_cal, q_blt, q_enil, q_econs, q_met, q_fld, q_fset, r_for, r_lc, r_var, r_ix_ob, r_sl_ob, r_put_ob, r_len_ob, r_tup_ob, r_lst_ob, r_addl, r_app, r_it_ob, r_in_ob, r_nin_ob, r_fld, r_fset, r_isList_ob, optI, Rf.start, met_ps hW hC hP P1, e3, p0, f5, List.lookup, sizeLine]
        have b1 : evalB W L (callF W L M) (some (j, caps.map fun d => ("", d))) bodyW [some (.ob pb), none, s2] h = .ok (.rt (.tup [.tup ps, .tup xs])) h2 := by
          rw [q_cons, a1, RS.then_nx, q_cons]
          rw [show (vis (pr, od).1).2 = _ from hr]
          rw [q_ife, e_cx _ rfl, show ((some (D.tup xs)).getD D.non) = D.tup xs from rfl, c1, R.stm_ok, r_tbl, R.stm_ok, if_pos rfl, q_cons, s_ret rfl, c2]
          rfl
        unfold whileI
        rw [ct, R.stm_ok, if_pos rfl, b1]
      | none =>
        obtain ⟨b, eb⟩ := pre
        have P2 := P1.vis (i + 1)
        have c1 : evalE W (callF W L M) none (.cmp .isn (.var 2) (.cst .non)) [some (.ob pb), none, some .non] h1 = .ok (.bl false) h1 := by simp [q_set, q_put, q_expr, q_ret, q_retN, q_ife, q_cons, q_nil, q_cst, q_bin, q_neg, q_cmp, q_and, q_or, q_not, q_eife, q_tup, q_lst, q_dic, q_ix, q_slc, q_cal, q_blt, q_enil, q_econs, q_met, q_fld, q_fset, r_for, r_lc, r_var, r_ix_ob, r_sl_ob, r_put_ob, r_len_ob, r_tup_ob, r_lst_ob, r_addl, r_app, r_it_ob, r_in_ob, r_nin_ob, r_fld, r_fset, r_isList_ob, optI, Rf.start]
        have c2 : evalS W L (callF W L M) none (.faug (.var 0) "_visited" .add (.cst (.int 1))) [some (.ob pb), none, some .non] h1 = .ok (.nx [some (.ob pb), none, some .non]) (h1.set pb (.ins 1 [("_heads", .ob o), ("_known", .ob kn), ("_reached", .ob rc), ("_origins", .ob og), ("_visited", .int ((i + 1 : Nat) : Int))])) := by
          rw [r_faug (n := pb) (y := .int i) (w := .int ((i + 1 : Nat) : Int)) rfl p0 f5 (by simp [List.lookup]) (by simp [augD]) (by simp)]
          simp [fput]
        obtain ⟨res, zt', met', rl', vi', h', hs, e3, P3, v3, c3, j3, k3⟩ := ih (i + 1) (s2 := some .non) (by omega) (by rw [eb, List.length_append]; omega) P2 hc1 (hJ _ _ j1 fun n mo hn e => by rw [List.getElem?_set_ne (fun q => hn (by rw [← q]; simp))]; exact e)
        refine ⟨res, zt', met', rl', vi', h', .step hzi hr hs, ?_, P3, v3, c3, j3, k1.trans ((Kn.set P.lo.1).trans k3)⟩
        have b1 : evalB W L (callF W L M) (some (j, caps.map fun d => ("", d))) bodyW [some (.ob pb), none, s2] h = .ok (.nx [some (.ob pb), none, some .non]) (h1.set pb (.ins 1 [("_heads", .ob o), ("_known", .ob kn), ("_reached", .ob rc), ("_origins", .ob og), ("_visited", .int ((i + 1 : Nat) : Int))])) := by
          rw [q_cons, a1, RS.then_nx, q_cons]
          rw [show (vis (pr, od).1).2 = _ from hr]
          rw [q_ife, e_cx _ rfl, show ((none : Option D).getD D.non) = D.non from rfl, c1, R.stm_ok, r_tbl, R.stm_ok, if_neg (by simp), q_nil, RS.then_nx, q_cons, s_faug rfl rfl, c2]
          rfl
        unfold whileI
        rw [ct, R.stm_ok, if_pos rfl, b1]
        exact e3
    · obtain rfl : i = zt.length := by omega
      refine ⟨none, zt, met, rl, _, h, .done, ⟨s2, ?_⟩, P, fun _ => rfl, hc, hj, Kn.refl⟩
      rw [decide_eq_false hlt] at ct
      unfold whileI
      rw [ct, R.stm_ok]
      rfl
abbrev bodyFW : List S := [.whl testW bodyW, .ret (.cst .non)]
/-- pairs.first_wrong(visit) -/
theorem first_ok (U : Uni nms kvs V) (N : Nat) (hN : 18 ≤ N) (hL : 16000002 ≤ L) {vis : Pr → List Ps × Option D} (hvt : ∀ pr d, (vis pr).2 = some d → ∃ xs, d = .tup xs) {v j : Nat} {caps : List D} {J : Hs → Prop} (hJ : Off [pb, nd, m, kn, rc, og] J)
    (hv : VisOk W L (N - 1) nms kvs V b0 pb o y nd m kn rc og vis j caps J) (hfv : W.fns[v]? = some ⟨1 + caps.length, 3, bodyFW, some (1, j, caps.length)⟩) (P : PD nms kvs V b0 pb o y nd m kn rc og vi met zt rl h) (hvi : vi ≤ zt.length) (hc : Ch zt) (hj : J h) :
    ∃ (res : Option (Nat × D)) (zt' : St) (met' : List T) (rl' : List (Nat × Nat)) (vi' : Nat) (h' : Hs) (d : D), callF W L N v (.ob pb :: caps) h = .ok d h' ∧ SrG vis zt vi res zt' ∧ PD nms kvs V b0 pb o y nd m kn rc og vi' met' zt' rl' h' ∧ (res = none → vi' = zt'.length) ∧ Ch zt' ∧ J h' ∧ Kn b0 h h' ∧
      (match res with | none => d = .non | some (k, r) => ∃ ps, Pth zt' k ps ∧ d = .tup [.tup ps, r]) := by
  obtain ⟨M, rfl⟩ : ∃ M, N = M + 1 := ⟨N - 1, by omega⟩
  obtain ⟨res, zt', met', rl', vi', h', hs, e, P', hv', hc', hj', k'⟩ := first_loop hW hC hP L U M (by omega) hL hvt hJ hv L vi none (by omega) hvi P hc hj
  have es : (FI.mk (1 + caps.length) 3 bodyFW (some (1, j, caps.length))).body = bodyFW := rfl
  rw [callF_v hfv (by simp; omega) rfl]
  have ed : (D.ob pb :: caps).drop 1 = caps := rfl
  have et : Rf.start 3 ((D.ob pb :: caps).take 1) = [some (.ob pb), none, none] := rfl
  rw [ed, et]
  have s1 : evalS W L (callF W L M) (some (j, caps.map fun d => ("", d))) (.whl testW bodyW) [some (.ob pb), none, none] h = whileI (cW0 W L M (some (j, caps.map fun d => ("", d)))) (evalB W L (callF W L M) (some (j, caps.map fun d => ("", d))) bodyW) L [some (.ob pb), none, none] h := by
    simp only [evalS]
  cases res with
  | none =>
    obtain ⟨s2, e⟩ := e
    refine ⟨none, zt', met', rl', vi', h', .non, ?_, hs, P', hv', hc', hj', k', rfl⟩
    rw [q_cons, s1, e, RS.then_nx, q_cons, s_ret rfl, q_ret, q_cst]
    rfl
  | some kd =>
    obtain ⟨k, r⟩ := kd
    obtain ⟨ps, hp, e⟩ := e
    refine ⟨some (k, r), zt', met', rl', vi', h', .tup [.tup ps, r], ?_, hs, P', hv', hc', hj', k', ps, hp, rfl⟩
    rw [q_cons, s1, e]
    rfl
/-- a visit by the lambda: subtalks -/
theorem vis_sub (U : Uni nms kvs V) (M : Nat) (hM : 17 ≤ M) (hL : 10 ≤ L) {j : Nat} (hj : W.fns[j]? = some ⟨2, 2, [.ret (.cal 20 [(.var 0), (.var 1)])], none⟩) {J : Hs → Prop} (hJ : Off [pb, nd, m, kn, rc, og] J) : VisOk W L M nms kvs V b0 pb o y nd m kn rc og (visP nms kvs) j [.ob pb] J := by
  intro i vi met zt rl h z P hj' hz
  obtain ⟨K, rfl⟩ : ∃ K, M = K + 1 := ⟨M - 1, by omega⟩
  obtain ⟨met', rl', h', e, P', k⟩ := visit_ok hW hC hP L U P K (by omega) hL hz
  refine ⟨met', rl', h', ?_, P', hJ _ _ hj' k.2, P.okn k⟩
  rw [callF_s hj rfl]
  simp [q_set, q_put, q_expr, q_ret, q_retN, q_ife, q_cons, q_nil, q_cst, q_bin, q_neg, q_cmp, q_and, q_or, q_not, q_eife, q_tup, q_lst, q_dic, q_ix, q_slc, q_cal, q_blt, q_enil, q_econs, q_met, q_fld, q_fset, r_for, r_lc, r_var, r_ix_ob, r_sl_ob, r_put_ob, r_len_ob, r_tup_ob, r_lst_ob, r_addl, r_app, r_it_ob, r_in_ob, r_nin_ob, r_fld, r_fset, r_isList_ob, optI, Rf.start, e]
omit hP hC hW in
theorem vis_tup' (pr : Pr) (d : D) (h : (visP nms kvs pr).2 = some d) : ∃ xs, d = .tup xs := visP_tup h
omit hP hC hW in
theorem Ch.one {a : Pr} : Ch [(a, .tup [.non, .non])] := by
  intro k z hz
  match k, hz with
  | 0, hz => simp at hz; subst hz; exact .inl rfl
  | k + 1, hz => simp at hz
theorem wrong_path_ok (U : Uni nms kvs V) (N : Nat) (hN : 21 ≤ N) (hL : 16000002 ≤ L) {t u : T} (ht : t ∈ V) (hu : u ∈ V) (h : Hs) (hy : h[y]? = some (.dic false false kvs)) :
    ∃ (res : Option (Nat × D)) (zt : St) (h' : Hs) (d : D), callF W L N 19 [.ob y, toD t, toD u] h = .ok d h' ∧ Kx h h' ∧ Sr nms kvs [((hd nms kvs t, hd nms kvs u), .tup [.non, .non])] 0 res zt ∧
      (match res with | none => d = .non | some (k, r) => ∃ ps, Pth zt k ps ∧ d = .tup [.tup ps, r]) := by
  obtain ⟨M, rfl⟩ : ∃ M, N = M + 1 := ⟨N - 1, by omega⟩
  obtain ⟨o, nd, m, kn, rc, og, h1, e1, P1, k1⟩ := pnew_ok hW hC hP L U M (by omega) (by omega) h hy
  obtain ⟨met2, rl2, h2, e2, P2, k2⟩ := begin_ok hW hC hP L U P1 M (by omega) (by omega) ht hu
  have ea : addS [] (hd nms kvs t, hd nms kvs u) (.tup [.non, .non]) = [((hd nms kvs t, hd nms kvs u), .tup [.non, .non])] := by simp [addS]
  rw [ea] at P2
  obtain ⟨res, zt', met', rl', vi', h', d, e3, hs, P3, _, _, _, k3, hd'⟩ := first_ok hW hC hP L U M (by omega) hL (vis := visP nms kvs) vis_tup' (v := 36) (j := 35) (caps := [.ob h.length]) (J := fun _ => True) (fun _ _ _ _ => trivial)
    (vis_sub hW hC hP L U (M - 1) (by omega) (by omega) (hW 35 _ (by decide) rfl) (fun _ _ _ _ => trivial)) (hW 36 _ (by decide) rfl) P2 (Nat.zero_le _) .one trivial
  refine ⟨res, zt', h', d, ?_, ?_, hs.sr, hd'⟩
  · rw [callF_s (hW 19 _ (by decide) rfl) rfl]
    have ob1 := P1.ob
    have ob2 := P2.ob
    have im : ∀ (c : Nat) (fs : List (String × D)) (R : R D), c = 1 → (fs.lookup "first_wrong").isNone = true → mmlK (some (c, fs)) 1 "first_wrong" R = R := fun c fs R h1 h2 => by simp [mmlK, h1, h2]
    have es : Rf.start f_wrong_path.ns [D.ob y, toD t, toD u] = [some (.ob y), some (toD t), some (toD u), none] := rfl
    rw [es]
    unfold f_wrong_path
    have s1 : evalS W L (callF W L M) none (.set 3 (.new 1 [(.var 0)])) [some (.ob y), some (toD t), some (toD u), none] h = .ok (.nx [some (.ob y), some (toD t), some (toD u), some (.ob h.length)]) h1 := by
      simp [q_set, q_put, q_expr, q_ret, q_retN, q_ife, q_cons, q_nil, q_cst, q_bin, q_neg, q_cmp, q_and, q_or, q_not, q_eife, q_tup, q_lst, q_dic, q_ix, q_slc, q_cal, q_blt, q_enil, q_econs, q_met, q_fld, q_fset, r_for, r_lc, r_var, r_ix_ob, r_sl_ob, r_put_ob, r_len_ob, r_tup_ob, r_lst_ob, r_addl, r_app, r_it_ob, r_in_ob, r_nin_ob, r_fld, r_fset, r_isList_ob, optI, Rf.start, q_new hP rfl, e1]
    have s2 : evalS W L (callF W L M) none (.expr (.met (.var 3) "begin" [(.var 1), (.var 2)])) [some (.ob y), some (toD t), some (toD u), some (.ob h.length)] h1 = .ok (.nx [some (.ob y), some (toD t), some (toD u), some (.ob h.length)]) h2 := by
      simp [q_set, q_put, q_expr, q_ret, q_retN, q_ife, q_cons, q_nil, q_cst, q_bin, q_neg, q_cmp, q_and, q_or, q_not, q_eife, q_tup, q_lst, q_dic, q_ix, q_slc, q_cal, q_blt, q_enil, q_econs, q_met, q_fld, q_fset, r_for, r_lc, r_var, r_ix_ob, r_sl_ob, r_put_ob, r_len_ob, r_tup_ob, r_lst_ob, r_addl, r_app, r_it_ob, r_in_ob, r_nin_ob, r_fld, r_fset, r_isList_ob, optI, Rf.start, met_bg hW hC hP P1, e2]
    have i2 : isIns (.ob h.length) h2 = some (1, [("_heads", .ob o), ("_known", .ob kn), ("_reached", .ob rc), ("_origins", .ob og), ("_visited", .int 0)]) := by simp [isIns, ob2]
    have s3 : evalE W (callF W L M) none (.mml 1 (.var 3) "first_wrong" 36 35 [(.var 3)]) [some (.ob y), some (toD t), some (toD u), some (.ob h.length)] h2 = .ok d h' := by
      rw [q_mml, r_var]
      show (mmlK (isIns (.ob h.length) h2) 1 "first_wrong" _) = _
      rw [i2, im _ _ _ rfl (by simp [List.lookup])]
      simp [q_set, q_put, q_expr, q_ret, q_retN, q_ife, q_cons, q_nil, q_cst, q_bin, q_neg, q_cmp, q_and, q_or, q_not, q_eife, q_tup, q_lst, q_dic, q_ix, q_slc, q_cal, q_blt, q_enil, q_econs, q_met, q_fld, q_fset, r_for, r_lc, r_var, r_ix_ob, r_sl_ob, r_put_ob, r_len_ob, r_tup_ob, r_lst_ob, r_addl, r_app, r_it_ob, r_in_ob, r_nin_ob, r_fld, r_fset, r_isList_ob, optI, Rf.start, e3]
    rw [q_cons, s1, RS.then_nx, q_cons, s2, RS.then_nx, q_cons, q_ret, s3]
    rfl
  · exact Kn.kx k1 ((P1.okn k2).trans k3)
theorem sr_sub {t u : T} {res : Option (Nat × D)} {zt : St} (hs : Sr nms kvs [((hd nms kvs t, hd nms kvs u), .tup [.non, .non])] 0 res zt) : res = none ↔ Sub nms kvs (hd nms kvs t, hd nms kvs u) :=
  hs.tells (by simp) (fun x hx => by simp at hx; subst hx; exact .refl) (fun j x hj => by omega)
end
end K13
end

section
namespace K13
open PySem PySem.Spec PyProof.Rows L2 Rf
section
variable {nms : List (List Char)} {kvs : List (D × D)} {V : List T} {b0 pb o y nd m kn rc og : Nat} {met : List T} {zt : St} {rl : List (Nat × Nat)} {h h' : Hs}
variable {W : Wd} (hW : Has W) (hC : HasC W) (hP : HasP W) (L : Nat)
include hP hC hW
open Classical in
theorem is_subtalk_ok (U : Uni nms kvs V) (N : Nat) (hN : 22 ≤ N) (hL : 16000002 ≤ L) {t u : T} (ht : t ∈ V) (hu : u ∈ V) (h : Hs) (hy : h[y]? = some (.dic false false kvs)) :
    ∃ h' : Hs, callF W L N 18 [.ob y, toD t, toD u] h = .ok (.bl (decide (Sub nms kvs (hd nms kvs t, hd nms kvs u)))) h' ∧ Kx h h' := by
  obtain ⟨M, rfl⟩ : ∃ M, N = M + 1 := ⟨N - 1, by omega⟩
  obtain ⟨res, zt, h', d, e1, k1, hs, hd'⟩ := wrong_path_ok hW hC hP L U M (by omega) hL ht hu h hy
  have q := sr_sub (nms := nms) (kvs := kvs) hW hC hP hs
  rw [callF_s (hW 18 _ (by decide) rfl) rfl]
  refine ⟨h', ?_, k1⟩
  cases res with
  | none =>
    simp only at hd'
    subst hd'
    rw [decide_eq_true (q.mp rfl)]
    simp [q_set, q_put, q_expr, q_ret, q_retN, q_ife, q_cons, q_nil, q_cst, q_bin, q_neg, q_cmp, q_and, q_or, q_not, q_eife, q_tup, q_lst, q_dic, q_ix, q_slc, q_cal, q_blt, q_enil, q_econs, q_met, q_fld, q_fset, r_for, r_lc, r_var, r_ix_ob, r_sl_ob, r_put_ob, r_len_ob, r_tup_ob, r_lst_ob, r_addl, r_app, r_it_ob, r_in_ob, r_nin_ob, r_fld, r_fset, r_isList_ob, optI, Rf.start, f_is_subtalk, e1]
  | some kd =>
    obtain ⟨k, r⟩ := kd
    obtain ⟨ps, _, rfl⟩ := hd'
    rw [decide_eq_false (fun z => by have := q.mpr z; cases this)]
    simp [q_set, q_put, q_expr, q_ret, q_retN, q_ife, q_cons, q_nil, q_cst, q_bin, q_neg, q_cmp, q_and, q_or, q_not, q_eife, q_tup, q_lst, q_dic, q_ix, q_slc, q_cal, q_blt, q_enil, q_econs, q_met, q_fld, q_fset, r_for, r_lc, r_var, r_ix_ob, r_sl_ob, r_put_ob, r_len_ob, r_tup_ob, r_lst_ob, r_addl, r_app, r_it_ob, r_in_ob, r_nin_ob, r_fld, r_fset, r_isList_ob, optI, Rf.start, f_is_subtalk, e1]
end
end K13
end

section
namespace K13
open PySem PySem.Spec PyProof.Rows L2 Rf
/-! ### subtalks -/
theorem goR_none {nms : List (List Char)} {kvs : List (D × D)} {says : Bool} {g : List (List Char × D × T)} : ∀ {rows : List (List Char × D × T)}, ((goR nms kvs says g rows).2 = none ↔ ∀ x ∈ rows, (rowP nms kvs says g x).2 = none) ∧
    ((goR nms kvs says g rows).2 = none → ∀ y, y ∈ (goR nms kvs says g rows).1 ↔ ∃ x ∈ rows, y ∈ (rowP nms kvs says g x).1)
  | [] => by simp [goR]
  | x :: r => by
    obtain ⟨a, b⟩ := goR_none (rows := r) (nms := nms) (kvs := kvs) (says := says) (g := g)
    simp only [goR]
    cases e : (rowP nms kvs says g x).2 with
    | some d => simp [e]
    | none =>
      refine ⟨by simp [e, a], fun h y => ?_⟩
      simp only at h ⊢
      rw [List.mem_append, b h y]
      simp
/-- payloads, as they are compared -/
def SK (nms : List (List Char)) (kvs : List (D × D)) (Q : Pr → Prop) (p p' : D) : Prop := match payT p, payT p' with
  | some u, some u' => Q (hd nms kvs u, hd nms kvs u')
  | _, _ => eqv p p' = true
noncomputable def nxtP (nms : List (List Char)) (kvs : List (D × D)) (says : Bool) (t t' : T) : Pr := if says then (hd nms kvs t', hd nms kvs t) else (hd nms kvs t, hd nms kvs t')
/-- what holds of a pair, where Q holds behind it -/
def One (nms : List (List Char)) (kvs : List (D × D)) (Q : Pr → Prop) (pr : Pr) : Prop := tg pr.1 = tg pr.2 ∧ ∀ x ∈ rowL (rowsT (askT pr.1 pr.2)), ∃ q, fnd x.1 (rowL (rowsT (givT pr.1 pr.2))) = some q ∧ SK nms kvs Q x.2.1 q.1 ∧ Q (nxtP nms kvs (sayB pr.1) x.2.2 q.2)
section
variable {nms : List (List Char)} {kvs : List (D × D)}
theorem rowP_one {Q : Pr → Prop} {says : Bool} {g : List (List Char × D × T)} {x : List Char × D × T} : ((rowP nms kvs says g x).2 = none ∧ ∀ y s, (y, s) ∈ (rowP nms kvs says g x).1 → Q y) ↔ ∃ q, fnd x.1 g = some q ∧ SK nms kvs Q x.2.1 q.1 ∧ Q (nxtP nms kvs says x.2.2 q.2) := by
  unfold rowP SK nxtP
  cases e : fnd x.1 g with
  | none => simp
  | some q =>
    simp only [Option.some.injEq, exists_eq_left']
    cases e1 : payT x.2.1 with
    | none =>
      simp only
      cases e3 : eqv x.2.1 q.1 with
      | true => simp
      | false => simp
    | some u => cases e2 : payT q.1 with
      | none =>
        simp only
        cases e3 : eqv x.2.1 q.1 with
        | true => simp
        | false => simp
      | some u' =>
        simp only [true_and]
        constructor
        · intro h; exact ⟨h _ _ (List.mem_cons_self ..), h _ _ (List.mem_cons_of_mem _ (List.mem_cons_self ..))⟩
        · rintro ⟨a, b⟩ y s hy
          simp only [List.mem_cons, Prod.mk.injEq, List.not_mem_nil, or_false] at hy
          rcases hy with ⟨rfl, _⟩ | ⟨rfl, _⟩
          · exact a
          · exact b
theorem one_iff {Q : Pr → Prop} {pr : Pr} : (¬ Bad nms kvs pr ∧ ∀ y s, (y, s) ∈ (visP nms kvs pr).1 → Q y) ↔ One nms kvs Q pr := by
  unfold Bad visP One
  by_cases ht : tg pr.1 = tg pr.2
  · rw [if_pos ht]
    obtain ⟨a, b⟩ := goR_none (nms := nms) (kvs := kvs) (says := sayB pr.1) (g := rowL (rowsT (givT pr.1 pr.2))) (rows := rowL (rowsT (askT pr.1 pr.2)))
    simp only [ne_eq, Decidable.not_not, ht, true_and]
    constructor
    · rintro ⟨h1, h2⟩ x hx
      refine rowP_one.mp ⟨a.mp h1 x hx, fun y s hy => ?_⟩
      exact h2 y s ((b h1 _).mpr ⟨x, hx, hy⟩)
    · intro h
      have h1 := a.mpr fun x hx => (rowP_one.mpr (h x hx)).1
      refine ⟨h1, fun y s hy => ?_⟩
      obtain ⟨x, hx, hy⟩ := (b h1 _).mp hy
      exact (rowP_one.mpr (h x hx)).2 y s hy
  · rw [if_neg ht]
    simp [ht]
theorem sub_step {s : Pr} (h : Sub nms kvs s) : One nms kvs (Sub nms kvs) s := by
  refine one_iff.mp ⟨h s .refl, fun y st hy x hx => ?_⟩
  have nb := h s .refl
  have : Rch nms kvs s x := by
    have hsy : Rch nms kvs s y := .step .refl nb hy
    clear hy
    induction hx with
    | refl => exact hsy
    | step h nb m ih => exact .step ih nb m
  exact h x this
theorem sub_inv {R : Pr → Prop} (hR : ∀ x, R x → One nms kvs R x) {s : Pr} (hs : R s) : Sub nms kvs s := by
  have all : ∀ x, Rch nms kvs s x → R x := by
    intro x hx
    induction hx with
    | refl => exact hs
    | step h nb m ih => exact (one_iff.mpr (hR _ ih)).2 _ _ m
  intro x hx
  exact (one_iff.mpr (hR x (all x hx))).1
theorem One.mono {Q Q' : Pr → Prop} {pr : Pr} (h : One nms kvs Q pr) (i : ∀ x, Q x → Q' x) : One nms kvs Q' pr := by
  refine ⟨h.1, fun x hx => ?_⟩
  obtain ⟨q, a, b, c⟩ := h.2 x hx
  refine ⟨q, a, ?_, i _ c⟩
  unfold SK at b ⊢
  split at b
  · exact i _ b
  · exact b
theorem fnd_self : ∀ {r : TR} {bb k : Nat}, okR nms bb r k → ∀ x ∈ rowL r, fnd x.1 (rowL r) = some x.2
  | .nil, _, _, _, x, hx => by simp [rowL] at hx
  | .cons l p t r, bb, k, h, x, hx => by
    simp only [okR] at h
    simp only [rowL, List.mem_cons] at hx
    simp only [rowL, fnd]
    rcases hx with rfl | hx
    · simp
    · have hl : x.1 ∈ labs r := by
        have : ∀ {r : TR}, x ∈ rowL r → x.1 ∈ labs r := by
          intro r
          induction r using TR.rec (motive_1 := fun _ => True) with
          | nil => intro h; simp [rowL] at h
          | cons l p t r _ ih =>
            intro h
            simp only [rowL, List.mem_cons] at h
            simp only [labs, List.mem_cons]
            rcases h with rfl | h
            · exact .inl rfl
            · exact .inr (ih h)
          | _ => trivial
        exact this hx
      have : l ≠ x.1 := by rintro rfl; exact h.1.2 hl
      rw [if_neg this]
      exact fnd_self h.2.2.2 x hx
theorem fnd_mem : ∀ {l : List Char} {rows : List (List Char × D × T)} {q : D × T}, fnd l rows = some q → (l, q.1, q.2) ∈ rows
  | _, [], _, h => by simp [fnd] at h
  | l, x :: r, q, h => by
    simp only [fnd] at h
    split at h
    · rename_i e
      cases h
      rw [← e]; exact List.mem_cons_self
    · exact List.mem_cons_of_mem _ (fnd_mem h)
theorem tg_say {a : T} : sayB a = true ↔ tg a = cS := by unfold sayB; simp
theorem askT_s {a b : T} (h : sayB a = true) : askT a b = b ∧ givT a b = a := by unfold askT givT; simp [h]
theorem askT_h {a b : T} (h : sayB a = false) : askT a b = a ∧ givT a b = b := by unfold askT givT; simp [h]
theorem okP_tx {p : D} (hn : ∀ s ∈ nms, okL s) (h : okP nms p) : tx p = true := by
  rcases h with rfl | rfl | rfl | ⟨s, hs, rfl | rfl⟩
  · rfl
  · rfl
  · rfl
  · simp only [tx, txs, (hn s hs).1, Bool.and_true]; rfl
  · simp only [tx, txs, (hn s hs).1, Bool.and_true]; rfl
variable {V : List T}
/-- a relation's Q for heads of V alone -/
theorem sub_refl (U : Uni nms kvs V) {a : T} (ha : a ∈ V) (hs : isN a = false) : Sub nms kvs (a, a) := by
  refine sub_inv (R := fun x => ∃ a ∈ V, isN a = false ∧ x = (a, a)) ?_ ⟨a, ha, hs, rfl⟩
  rintro x ⟨a, ha, hs, rfl⟩
  refine ⟨rfl, fun x hx => ?_⟩
  have e1 : askT a a = a := by unfold askT; split <;> rfl
  have e2 : givT a a = a := by unfold givT; split <;> rfl
  simp only [e1, e2] at hx ⊢
  obtain ⟨j, hj⟩ := rowsT_ok0 (U.ok a ha)
  obtain ⟨hp, hpv, ht⟩ := pay_V U ha hx
  refine ⟨x.2, fnd_self hj x hx, ?_, ?_⟩
  · unfold SK
    cases e : payT x.2.1 with
    | none => exact eqv_refl _ (okP_dat hp).1
    | some u =>
      obtain ⟨m, _, _, hv, hn⟩ := U.hd (hpv u e).1
      exact ⟨_, hv, hn, rfl⟩
  · obtain ⟨m, _, _, hv, hn⟩ := U.hd ht
    unfold nxtP
    exact ⟨_, hv, hn, by split <;> rfl⟩
theorem sub_trans (U : Uni nms kvs V) {a b c : T} (ha : a ∈ V) (hb : b ∈ V) (hc : c ∈ V) (h1 : Sub nms kvs (a, b)) (h2 : Sub nms kvs (b, c)) : Sub nms kvs (a, c) := by
  refine sub_inv (R := fun x => ∃ a ∈ V, ∃ b ∈ V, ∃ c ∈ V, x = (a, c) ∧ Sub nms kvs (a, b) ∧ Sub nms kvs (b, c)) ?_ ⟨a, ha, b, hb, c, hc, rfl, h1, h2⟩
  rintro x ⟨a, ha, b, hb, c, hc, rfl, h1, h2⟩
  obtain ⟨t1, o1⟩ := sub_step h1
  obtain ⟨t2, o2⟩ := sub_step h2
  simp only at t1 o1 t2 o2
  -- payloads
  have pay : ∀ {p1 p2 p3 : D}, okP nms p1 → okP nms p2 → okP nms p3 → (∀ u, payT p1 = some u → u ∈ V) → (∀ u, payT p2 = some u → u ∈ V) → (∀ u, payT p3 = some u → u ∈ V) → SK nms kvs (Sub nms kvs) p1 p2 → SK nms kvs (Sub nms kvs) p2 p3 →
      SK nms kvs (fun x => ∃ a ∈ V, ∃ b ∈ V, ∃ c ∈ V, x = (a, c) ∧ Sub nms kvs (a, b) ∧ Sub nms kvs (b, c)) p1 p3 := by
    intro p1 p2 p3 k1 k2 k3 v1 v2 v3 s1 s2
    have tr : ∀ {p p' : D}, okP nms p → okP nms p' → eqv p p' = true → p = p' := fun a b e => eqv_eq (okP_tx U.nm a) (okP_tx U.nm b) e
    unfold SK at s1 s2 ⊢
    cases e1 : payT p1 with
    | none =>
      rw [e1] at s1
      have := tr k1 k2 s1
      subst this
      rw [e1] at s2
      exact s2
    | some u1 => cases e2 : payT p2 with
      | none =>
        rw [e1, e2] at s1
        have := tr k1 k2 s1
        subst this
        rw [e1] at e2; cases e2
      | some u2 => cases e3 : payT p3 with
        | none =>
          rw [e2, e3] at s2
          have := tr k2 k3 s2
          subst this
          rw [e2] at e3; cases e3
        | some u3 =>
          rw [e1, e2] at s1
          rw [e2, e3] at s2
          obtain ⟨_, _, _, w1, _⟩ := U.hd (v1 u1 e1)
          obtain ⟨_, _, _, w2, _⟩ := U.hd (v2 u2 e2)
          obtain ⟨_, _, _, w3, _⟩ := U.hd (v3 u3 e3)
          exact ⟨_, w1, _, w2, _, w3, rfl, s1, s2⟩
  refine ⟨t1.trans t2, fun x hx => ?_⟩
  simp only at hx ⊢
  cases hs : sayB a with
  | true =>
    have hs2 : sayB b = true := by rw [tg_say] at hs ⊢; rw [← t1]; exact hs
    rw [(askT_s hs).1] at hx
    rw [(askT_s hs).2]
    rw [(askT_s hs).1, (askT_s hs).2, hs] at o1
    rw [(askT_s hs2).1, (askT_s hs2).2, hs2] at o2
    obtain ⟨qb, f2, k2, n2⟩ := o2 x hx
    have hqb := fnd_mem f2
    obtain ⟨qa, f1, k1, n1⟩ := o1 _ hqb
    have hqa := fnd_mem f1
    obtain ⟨p1, pv1, tv1⟩ := pay_V U hc hx
    obtain ⟨p2, pv2, tv2⟩ := pay_V U hb hqb
    obtain ⟨p3, pv3, tv3⟩ := pay_V U ha hqa
    refine ⟨qa, f1, pay p1 p2 p3 (fun u e => (pv1 u e).1) (fun u e => (pv2 u e).1) (fun u e => (pv3 u e).1) k2 k1, ?_⟩
    obtain ⟨_, _, _, w1, _⟩ := U.hd tv1
    obtain ⟨_, _, _, w2, _⟩ := U.hd tv2
    obtain ⟨_, _, _, w3, _⟩ := U.hd tv3
    exact ⟨_, w3, _, w2, _, w1, rfl, n1, n2⟩
  | false =>
    have hs2 : sayB b = false := by
      rw [Bool.eq_false_iff] at hs ⊢
      rw [Ne, tg_say] at hs ⊢
      rw [← t1]; exact hs
    rw [(askT_h hs).1] at hx
    rw [(askT_h hs).2]
    rw [(askT_h hs).1, (askT_h hs).2, hs] at o1
    rw [(askT_h hs2).1, (askT_h hs2).2, hs2] at o2
    obtain ⟨qb, f1, k1, n1⟩ := o1 x hx
    have hqb := fnd_mem f1
    obtain ⟨qc, f2, k2, n2⟩ := o2 _ hqb
    have hqc := fnd_mem f2
    obtain ⟨p1, pv1, tv1⟩ := pay_V U ha hx
    obtain ⟨p2, pv2, tv2⟩ := pay_V U hb hqb
    obtain ⟨p3, pv3, tv3⟩ := pay_V U hc hqc
    refine ⟨qc, f2, pay p1 p2 p3 (fun u e => (pv1 u e).1) (fun u e => (pv2 u e).1) (fun u e => (pv3 u e).1) k1 k2, ?_⟩
    obtain ⟨_, _, _, w1, _⟩ := U.hd tv1
    obtain ⟨_, _, _, w2, _⟩ := U.hd tv2
    obtain ⟨_, _, _, w3, _⟩ := U.hd tv3
    exact ⟨_, w1, _, w2, _, w3, rfl, n1, n2⟩
/-! duals -/
theorem Rs.dl {t r : T} {m : Nat} (h : Rs nms kvs t r m) : Rs nms kvs (K13.dl t) (K13.dl r) m := by
  induction h with
  | stop hs ho => exact .stop (by rw [isN_dl]; exact hs) (okT_dl ho)
  | @nm s t r m e h ih => exact .du e h
  | @du s t r m e h ih =>
    rw [dl_dl]
    exact .nm e h
theorem hd_dl (U : Uni nms kvs V) {t : T} (ht : t ∈ V) : hd nms kvs (dl t) = dl (hd nms kvs t) := by
  obtain ⟨m, hr, _⟩ := U.hd ht
  exact hd_eq hr.dl
theorem rowL_dl : ∀ r : TR, rowL (dlR r) = (rowL r).map fun x => (x.1, x.2.1, dl x.2.2)
  | .nil => rfl
  | .cons l p t r => by simp only [dlR, rowL, List.map_cons, rowL_dl r]
theorem rowsT_dl : ∀ t : T, rowsT (dl t) = dlR (rowsT t)
  | .en => rfl
  | .nm _ => rfl
  | .du _ => rfl
  | .say _ => rfl
  | .hear _ => rfl
theorem fnd_dl {l : List Char} : ∀ {rows : List (List Char × D × T)}, fnd l (rows.map fun x => (x.1, x.2.1, dl x.2.2)) = (fnd l rows).map fun q => (q.1, dl q.2)
  | [] => rfl
  | x :: r => by
    simp only [List.map_cons, fnd]
    split
    · rfl
    · exact fnd_dl
def tgd (w : List Char) : List Char := if w = cS then cH else if w = cH then cS else if w = cN then cU else if w = cU then cN else w
theorem tg_dl : ∀ t : T, tg (dl t) = tgd (tg t)
  | .en => rfl
  | .nm _ => rfl
  | .du _ => rfl
  | .say _ => rfl
  | .hear _ => rfl
theorem sayB_dl {a : T} (hs : isN a = false) (hr : rowL (rowsT a) ≠ []) : sayB (dl a) = !sayB a := by
  cases a with
  | en => simp [rowsT, rowL] at hr
  | nm s => simp [isN] at hs
  | du s => simp [isN] at hs
  | say r => rfl
  | hear r => rfl
theorem sub_dual (U : Uni nms kvs V) (hV : ∀ t ∈ V, dl t ∈ V) {a b : T} (ha : a ∈ V) (hb : b ∈ V) (na : isN a = false) (nb : isN b = false) (h : Sub nms kvs (a, b)) : Sub nms kvs (dl b, dl a) := by
  refine sub_inv (R := fun x => Sub nms kvs x ∨ ∃ a ∈ V, ∃ b ∈ V, isN a = false ∧ isN b = false ∧ x = (dl b, dl a) ∧ Sub nms kvs (a, b)) ?_ (.inr ⟨a, ha, b, hb, na, nb, rfl, h⟩)
  rintro x (h | ⟨a, ha, b, hb, na, nb, rfl, h⟩)
  · exact (sub_step h).mono fun x hx => .inl hx
  obtain ⟨t1, o1⟩ := sub_step h
  simp only at t1 o1
  refine ⟨by simp only; rw [tg_dl, tg_dl, t1], fun x hx => ?_⟩
  simp only at hx ⊢
  have sk : ∀ {p p' : D}, SK nms kvs (Sub nms kvs) p p' → SK nms kvs (fun x => Sub nms kvs x ∨ ∃ a ∈ V, ∃ b ∈ V, isN a = false ∧ isN b = false ∧ x = (dl b, dl a) ∧ Sub nms kvs (a, b)) p p' := by
    intro p p' h
    unfold SK at h ⊢
    split at h
    · exact .inl h
    · exact h
  have sab : sayB a = sayB b := by rw [Bool.eq_iff_iff, tg_say, tg_say, t1]
  -- the rows that are asked
  have main : ∀ (A G : T), A ∈ V → G ∈ V → askT a b = A → givT a b = G → askT (dl b) (dl a) = dl A → givT (dl b) (dl a) = dl G → (∀ t t' : T, t ∈ V → t' ∈ V → Sub nms kvs (nxtP nms kvs (sayB a) t t') →
        (∃ a' ∈ V, ∃ b' ∈ V, isN a' = false ∧ isN b' = false ∧ nxtP nms kvs (sayB (dl b)) (dl t) (dl t') = (dl b', dl a') ∧ Sub nms kvs (a', b'))) →
      ∃ q, fnd x.1 (rowL (rowsT (givT (dl b) (dl a)))) = some q ∧ SK nms kvs (fun x => Sub nms kvs x ∨ ∃ a ∈ V, ∃ b ∈ V, isN a = false ∧ isN b = false ∧ x = (dl b, dl a) ∧ Sub nms kvs (a, b)) x.2.1 q.1 ∧
        (fun x => Sub nms kvs x ∨ ∃ a ∈ V, ∃ b ∈ V, isN a = false ∧ isN b = false ∧ x = (dl b, dl a) ∧ Sub nms kvs (a, b)) (nxtP nms kvs (sayB (dl b)) x.2.2 q.2) := by
    intro A G hA hG eA eG eA' eG' hn
    rw [eA', rowsT_dl, rowL_dl] at hx
    obtain ⟨x0, hx0, rfl⟩ := List.mem_map.mp hx
    rw [eA, eG] at o1
    obtain ⟨q, f, k, n⟩ := o1 x0 hx0
    rw [eG', rowsT_dl, rowL_dl]
    refine ⟨(q.1, dl q.2), by rw [fnd_dl, f]; rfl, sk k, .inr ?_⟩
    exact hn _ _ (pay_V U hA hx0).2.2 (pay_V U hG (fnd_mem f)).2.2 n
  have hne : rowL (rowsT (askT (dl b) (dl a))) ≠ [] := fun q => by rw [q] at hx; cases hx
  cases hs : sayB a with
  | true =>
    have hsb : sayB b = true := by rw [← sab]; exact hs
    have hdb : sayB (dl b) = false := by
      cases b with
      | say r => rfl
      | hear r => simp [sayB, tg] at hsb
      | _ => simp [sayB, tg] at hsb
    refine main b a hb ha (askT_s hs).1 (askT_s hs).2 (askT_h hdb).1 (askT_h hdb).2 fun t t' ht ht' hn => ?_
    rw [hs] at hn
    obtain ⟨_, _, _, w1, z1⟩ := U.hd ht
    obtain ⟨_, _, _, w2, z2⟩ := U.hd ht'
    refine ⟨_, w2, _, w1, z2, z1, ?_, hn⟩
    rw [hdb]
    simp only [nxtP, Bool.false_eq_true, if_false]
    rw [hd_dl U ht, hd_dl U ht']
  | false =>
    have hsb : sayB b = false := by rw [← sab]; exact hs
    by_cases hdb : sayB (dl b) = true
    · refine main a b ha hb (askT_h hs).1 (askT_h hs).2 (askT_s hdb).1 (askT_s hdb).2 fun t t' ht ht' hn => ?_
      rw [hs] at hn
      obtain ⟨_, _, _, w1, z1⟩ := U.hd ht
      obtain ⟨_, _, _, w2, z2⟩ := U.hd ht'
      refine ⟨_, w1, _, w2, z1, z2, ?_, hn⟩
      rw [hdb]
      simp only [nxtP, if_true]
      rw [hd_dl U ht, hd_dl U ht']
    · exfalso
      have hdb : sayB (dl b) = false := by simpa using hdb
      rw [(askT_h hdb).1] at hne
      cases b with
      | en => simp [dl, rowsT, rowL] at hne
      | nm s => simp [isN] at nb
      | du s => simp [isN] at nb
      | say r => simp [sayB, tg] at hsb
      | hear r => simp [sayB, tg, dl] at hdb
mutual
theorem subs_dl : ∀ (t x : T), x ∈ subs t → dl x ∈ subs (dl t)
  | .en, x, h => by simp only [subs, List.mem_singleton] at h; subst h; simp [dl, subs]
  | .nm s, x, h => by simp only [subs, List.mem_singleton] at h; subst h; simp [dl, subs]
  | .du s, x, h => by simp only [subs, List.mem_singleton] at h; subst h; simp [dl, subs]
  | .say r, x, h => by
    simp only [subs, List.mem_cons] at h
    simp only [dl, subs, List.mem_cons]
    rcases h with rfl | h
    · exact .inl rfl
    · exact .inr (subsR_dl r x h)
  | .hear r, x, h => by
    simp only [subs, List.mem_cons] at h
    simp only [dl, subs, List.mem_cons]
    rcases h with rfl | h
    · exact .inl rfl
    · exact .inr (subsR_dl r x h)
theorem subsR_dl : ∀ (r : TR) (x : T), x ∈ subsR r → dl x ∈ subsR (dlR r)
  | .nil, x, h => by simp [subsR] at h
  | .cons l p t r, x, h => by
    simp only [subsR, dlR, List.mem_append] at h ⊢
    rcases h with h | h
    · exact .inl (subs_dl t x h)
    · exact .inr (subsR_dl r x h)
end
theorem VV_dl {rs : List T} : ∀ t ∈ VV nms rs, dl t ∈ VV nms rs := by
  intro t ht
  rcases mem_VV.mp ht with ⟨s, hs, rfl | rfl⟩ | ⟨t', h', h | h⟩
  · exact mem_VV.mpr (.inl ⟨s, hs, .inr rfl⟩)
  · exact mem_VV.mpr (.inl ⟨s, hs, .inl rfl⟩)
  · exact mem_VV.mpr (.inr ⟨t', h', .inr (subs_dl _ _ h)⟩)
  · refine mem_VV.mpr (.inr ⟨t', h', .inl ?_⟩)
    have := subs_dl _ _ h
    rwa [dl_dl] at this
end
end K13
end

section
namespace K13
open PySem PySem.Spec PyProof.Rows L2 Rf
theorem VV_sum {nms : List (List Char)} (rs : List T) : (VV nms rs).length = 2 * nms.length + 2 * (rs.map cnt).sum := by
  have a : ∀ (f : T → List T), (∀ t, (f t).length = cnt t) → ∀ l : List T, (l.flatMap f).length = (l.map cnt).sum := by
    intro f hf l
    induction l with
    | nil => rfl
    | cons x l ih => simp only [List.flatMap_cons, List.length_append, List.map_cons, List.sum_cons, ih, hf x]
  have a1 := a subs subs_cnt rs
  have a2 := a (fun t => subs (dl t)) (fun t => by rw [subs_cnt, cnt_dl]) rs
  unfold VV
  simp only [List.length_append, List.length_map]
  omega
theorem sum_le {c : Nat} : ∀ {l : List T}, (∀ t ∈ l, cnt t ≤ c) → (l.map cnt).sum ≤ l.length * c
  | [], _ => by simp
  | x :: l, h => by
    have a := sum_le fun t ht => h t (List.mem_cons_of_mem _ ht)
    have b := h x List.mem_cons_self
    simp only [List.map_cons, List.sum_cons, List.length_cons, Nat.add_mul, Nat.one_mul]; omega
theorem Tb.uni {nms : List (List Char)} {kvs : List (D × D)} {tals : List T} {y p q : Nat} (B : Tb nms kvs tals y p q) (own : List T) (ho : ∀ t ∈ own, okT nms 5 t 5) (hs : (own.map cnt).sum ≤ 1900) : Uni nms kvs (VV nms (tals ++ own)) := by
  refine uni_of B.nm B.tb B.keys B.tget (fun x hx => ?_) ?_
  · rcases List.mem_append.mp hx with hx | hx
    · exact (okT_mono (by omega)).1 _ _ (by omega) (B.tok x hx)
    · exact ho x hx
  · rw [VV_sum, List.map_append, List.sum_append]
    have a := sum_le (l := tals) (c := 13) fun t ht => cnt_le (B.tok t ht)
    have b := B.tl
    have c := B.n3
    have := Nat.mul_le_mul_right 13 b
    omega
theorem VV_own {nms : List (List Char)} {tals own : List T} {t : T} (h : t ∈ own) : t ∈ VV nms (tals ++ own) := mem_VV.mpr (.inr ⟨t, List.mem_append_right _ h, .inl (subs_self t)⟩)
end K13
end

section
namespace K13
open PySem PySem.Spec PyProof.Rows L2 Rf
@[simp] theorem r_isBool_bl (W : Wd) (b : Bool) (h : Hs) : bltC W .isBool [.bl b] h = .ok (.bl true) h := rfl
theorem r_neb (cs : List (List D)) (a b : Bool) (h : Hs) : cmpA cs .ne (.bl a) (.bl b) h = .ok (.bl (!(a == b))) h := r_ne rfl rfl
section
variable {nms : List (List Char)} {kvs : List (D × D)} {V : List T} {y : Nat} {W : Wd} (hW : Has W) (hC : HasC W) (hP : HasP W) (L : Nat)
include hP hC hW
abbrev body3 : List S := [.ife (.and (.var 8) (.and (.cal 18 [(.var 2), (.var 7), (.var 9)]) (.not (.cal 18 [(.var 2), (.var 5), (.var 9)]))))
          [.ret (.cst (.bl false))]
          []]
open Classical in
theorem loop3 (U : Uni nms kvs V) (M : Nat) (hM : 24 ≤ M) (hL : 16000002 ≤ L) (w : Nat) (mo : MO) (s0 s1 s3 s4 s6 : Option D) {a b : T} (ha : a ∈ V) (hb : b ∈ V) : ∀ (xs : List T), (∀ t ∈ xs, t ∈ V) → ∀ (s9 : Option D) (h : Hs), h[w]? = some mo → h[y]? = some (.dic false false kvs) →
    ∃ (s9' : Option D) (h' : Hs), forI (.keep w mo) (fT W L (callF W L M) (.nm 9) body3) (xs.map toD) [s0, s1, some (.ob y), s3, s4, some (toD a), s6, some (toD b), some (.bl (decide (Sub nms kvs (hd nms kvs a, hd nms kvs b)))), s9] h = .ok (.nx [s0, s1, some (.ob y), s3, s4, some (toD a), s6, some (toD b), some (.bl (decide (Sub nms kvs (hd nms kvs a, hd nms kvs b)))), s9']) h' ∧ Kx h h'
  | [], _, s9, h, hw, _ => ⟨s9, h, forI_nil hw, Kx.refl⟩
  | c :: xs, hv, s9, h, hw, hy => by
    have hc := hv c List.mem_cons_self
    obtain ⟨_, _, _, va, _⟩ := U.hd ha
    obtain ⟨_, _, _, vb, _⟩ := U.hd hb
    obtain ⟨_, _, _, vc, _⟩ := U.hd hc
    have one : ∃ h1, fT W L (callF W L M) (.nm 9) body3 (toD c) [s0, s1, some (.ob y), s3, s4, some (toD a), s6, some (toD b), some (.bl (decide (Sub nms kvs (hd nms kvs a, hd nms kvs b)))), s9] h = .ok (.nx [s0, s1, some (.ob y), s3, s4, some (toD a), s6, some (toD b), some (.bl (decide (Sub nms kvs (hd nms kvs a, hd nms kvs b)))), some (toD c)]) h1 ∧ Kx h h1 := by
      obtain ⟨h1, e1, k1⟩ := is_subtalk_ok hW hC hP L U M (by omega) hL hb hc h hy
      obtain ⟨h2, e2, k2⟩ := is_subtalk_ok hW hC hP L U M (by omega) hL ha hc h1 (k1.2 _ _ hy)
      by_cases q1 : Sub nms kvs (hd nms kvs a, hd nms kvs b)
      · by_cases q2 : Sub nms kvs (hd nms kvs b, hd nms kvs c)
        · have q3 := sub_trans U va vb vc q1 q2
          refine ⟨h2, ?_, k1.trans k2⟩
          rw [fT_some (σ1 := [s0, s1, some (.ob y), s3, s4, some (toD a), s6, some (toD b), some (.bl (decide (Sub nms kvs (hd nms kvs a, hd nms kvs b)))), some (toD c)]) rfl]
          rw [decide_eq_true q2] at e1
          rw [decide_eq_true q3] at e2
          rw [decide_eq_true q1]
          simp [q_set, q_put, q_expr, q_ret, q_retN, q_ife, q_cons, q_nil, q_cst, q_bin, q_neg, q_cmp, q_and, q_or, q_not, q_eife, q_tup, q_lst, q_dic, q_ix, q_slc, q_cal, q_blt, q_enil, q_econs, q_met, q_fld, q_fset, r_for, r_lc, r_var, r_ix_ob, r_sl_ob, r_put_ob, r_len_ob, r_tup_ob, r_lst_ob, r_addl, r_app, r_it_ob, r_in_ob, r_nin_ob, r_fld, r_fset, r_isList_ob, optI, Rf.start, e1, e2]
        · refine ⟨h1, ?_, k1⟩
          rw [fT_some (σ1 := [s0, s1, some (.ob y), s3, s4, some (toD a), s6, some (toD b), some (.bl (decide (Sub nms kvs (hd nms kvs a, hd nms kvs b)))), some (toD c)]) rfl]
          rw [decide_eq_false q2] at e1
          rw [decide_eq_true q1]
          simp [q_set, q_put, q_expr, q_ret, q_retN, q_ife, q_cons, q_nil, q_cst, q_bin, q_neg, q_cmp, q_and, q_or, q_not, q_eife, q_tup, q_lst, q_dic, q_ix, q_slc, q_cal, q_blt, q_enil, q_econs, q_met, q_fld, q_fset, r_for, r_lc, r_var, r_ix_ob, r_sl_ob, r_put_ob, r_len_ob, r_tup_ob, r_lst_ob, r_addl, r_app, r_it_ob, r_in_ob, r_nin_ob, r_fld, r_fset, r_isList_ob, optI, Rf.start, e1]
      · refine ⟨h, ?_, Kx.refl⟩
        rw [fT_some (σ1 := [s0, s1, some (.ob y), s3, s4, some (toD a), s6, some (toD b), some (.bl (decide (Sub nms kvs (hd nms kvs a, hd nms kvs b)))), some (toD c)]) rfl]
        rw [decide_eq_false q1]
        simp [q_set, q_put, q_expr, q_ret, q_retN, q_ife, q_cons, q_nil, q_cst, q_bin, q_neg, q_cmp, q_and, q_or, q_not, q_eife, q_tup, q_lst, q_dic, q_ix, q_slc, q_cal, q_blt, q_enil, q_econs, q_met, q_fld, q_fset, r_for, r_lc, r_var, r_ix_ob, r_sl_ob, r_put_ob, r_len_ob, r_tup_ob, r_lst_ob, r_addl, r_app, r_it_ob, r_in_ob, r_nin_ob, r_fld, r_fset, r_isList_ob, optI, Rf.start]
    obtain ⟨h1, e1, k1⟩ := one
    obtain ⟨s9', h2, e2, k2⟩ := loop3 U M hM hL w mo s0 s1 s3 s4 s6 ha hb xs (fun x hx => hv x (List.mem_cons_of_mem _ hx)) (some (toD c)) h1 (k1.2 _ _ hw) (k1.2 _ _ hy)
    refine ⟨s9', h2, ?_, k1.trans k2⟩
    rw [List.map_cons, forI_nx (show same (.keep w mo) h from hw) e1]
    exact e2
abbrev body2 : List S := [.set 8 (.cal 18 [(.var 2), (.var 5), (.var 7)]),
      .ife (.or (.not (.blt .isBool [(.var 8)])) (.cmp .ne (.var 8) (.cal 18 [(.var 2), (.cal 8 [(.var 7)]), (.cal 8 [(.var 5)])])))
        [.ret (.cst (.bl false))]
        [],
      .for_ (.nm 9) .seq [(.var 4)] body3]
theorem loop2 (U : Uni nms kvs V) (hV : ∀ t ∈ V, dl t ∈ V) (M : Nat) (hM : 24 ≤ M) (hL : 16000002 ≤ L) (w : Nat) (all : List T) (hall : ∀ t ∈ all, t ∈ V) (s0 s1 s3 s6 : Option D) {a : T} (ha : a ∈ V) : ∀ (xs : List T), (∀ t ∈ xs, t ∈ V) → ∀ (s7 s8 s9 : Option D) (h : Hs), h[w]? = some (.lst (all.map toD)) → h[y]? = some (.dic false false kvs) →
    ∃ (s7' s8' s9' : Option D) (h' : Hs), forI (.keep w (.lst (all.map toD))) (fT W L (callF W L M) (.nm 7) body2) (xs.map toD) [s0, s1, some (.ob y), s3, some (.ob w), some (toD a), s6, s7, s8, s9] h = .ok (.nx [s0, s1, some (.ob y), s3, some (.ob w), some (toD a), s6, s7', s8', s9']) h' ∧ Kx h h'
  | [], _, s7, s8, s9, h, hw, _ => ⟨s7, s8, s9, h, forI_nil hw, Kx.refl⟩
  | b :: xs, hv, s7, s8, s9, h, hw, hy => by
    classical
    have hb := hv b List.mem_cons_self
    obtain ⟨_, _, _, va, na⟩ := U.hd ha
    obtain ⟨_, _, _, vb, nb⟩ := U.hd hb
    obtain ⟨h1, e1, k1⟩ := is_subtalk_ok hW hC hP L U M (by omega) hL ha hb h hy
    obtain ⟨h2, e2, k2⟩ := ldualN hW L M b 5 (U.ok b hb) (by omega) h1
    obtain ⟨h3, e3, k3⟩ := ldualN hW L M a 5 (U.ok a ha) (by omega) h2
    have k123 := k1.trans (k2.trans k3)
    obtain ⟨h4, e4, k4⟩ := is_subtalk_ok hW hC hP L U M (by omega) hL (hV b hb) (hV a ha) h3 (k123.2 _ _ hy)
    rw [hd_dl U hb, hd_dl U ha] at e4
    have iff : Sub nms kvs (hd nms kvs a, hd nms kvs b) ↔ Sub nms kvs (dl (hd nms kvs b), dl (hd nms kvs a)) := by
      constructor
      · exact sub_dual U hV va vb na nb
      · intro q
        have := sub_dual U hV (hV _ vb) (hV _ va) (by rw [isN_dl]; exact nb) (by rw [isN_dl]; exact na) q
        rwa [dl_dl, dl_dl] at this
    rw [← decide_eq_decide.mpr iff] at e4
    have kk := k123.trans k4
    obtain ⟨c9, h5, e5, k5⟩ := loop3 hW hC hP L U M hM hL w (.lst (all.map toD)) s0 s1 s3 (some (.ob w)) s6 ha hb all hall s9 h4 (kk.2 _ _ hw) (kk.2 _ _ hy)
    obtain ⟨d7, d8, d9, h6, e6, k6⟩ := loop2 U hV M hM hL w all hall s0 s1 s3 s6 ha xs (fun x hx => hv x (List.mem_cons_of_mem _ hx)) (some (toD b)) (some (.bl (decide (Sub nms kvs (hd nms kvs a, hd nms kvs b))))) c9 h5 ((kk.trans k5).2 _ _ hw) ((kk.trans k5).2 _ _ hy)
    refine ⟨d7, d8, d9, h6, ?_, (kk.trans k5).trans k6⟩
    rw [List.map_cons, forI_nx (h' := h5) (σ' := [s0, s1, some (.ob y), s3, some (.ob w), some (toD a), s6, some (toD b), some (.bl (decide (Sub nms kvs (hd nms kvs a, hd nms kvs b)))), c9]) (show same (.keep w (.lst (all.map toD))) h from hw) ?_]
    · exact e6
    · rw [fT_some (σ1 := [s0, s1, some (.ob y), s3, some (.ob w), some (toD a), s6, some (toD b), s8, s9]) rfl]
      generalize decide (Sub nms kvs (hd nms kvs a, hd nms kvs b)) = told at *
      have a1 : evalS W L (callF W L M) none (.set 8 (.cal 18 [(.var 2), (.var 5), (.var 7)])) [s0, s1, some (.ob y), s3, some (.ob w), some (toD a), s6, some (toD b), s8, s9] h = .ok (.nx [s0, s1, some (.ob y), s3, some (.ob w), some (toD a), s6, some (toD b), some (.bl told), s9]) h1 := by
        simp [q_set, q_put, q_expr, q_ret, q_retN, q_ife, q_cons, q_nil, q_cst, q_bin, q_neg, q_cmp, q_and, q_or, q_not, q_eife, q_tup, q_lst, q_dic, q_ix, q_slc, q_cal, q_blt, q_enil, q_econs, q_met, q_fld, q_fset, r_for, r_lc, r_var, r_ix_ob, r_sl_ob, r_put_ob, r_len_ob, r_tup_ob, r_lst_ob, r_addl, r_app, r_it_ob, r_in_ob, r_nin_ob, r_fld, r_fset, r_isList_ob, optI, Rf.start, e1]
      have a2 : evalS W L (callF W L M) none (.ife (.or (.not (.blt .isBool [(.var 8)])) (.cmp .ne (.var 8) (.cal 18 [(.var 2), (.cal 8 [(.var 7)]), (.cal 8 [(.var 5)])]))) [.ret (.cst (.bl false))] []) [s0, s1, some (.ob y), s3, some (.ob w), some (toD a), s6, some (toD b), some (.bl told), s9] h1 = .ok (.nx [s0, s1, some (.ob y), s3, some (.ob w), some (toD a), s6, some (toD b), some (.bl told), s9]) h4 := by
        simp [q_set, q_put, q_expr, q_ret, q_retN, q_ife, q_cons, q_nil, q_cst, q_bin, q_neg, q_cmp, q_and, q_or, q_not, q_eife, q_tup, q_lst, q_dic, q_ix, q_slc, q_cal, q_blt, q_enil, q_econs, q_met, q_fld, q_fset, r_for, r_lc, r_var, r_ix_ob, r_sl_ob, r_put_ob, r_len_ob, r_tup_ob, r_lst_ob, r_addl, r_app, r_it_ob, r_in_ob, r_nin_ob, r_fld, r_fset, r_isList_ob, optI, Rf.start, e2, e3, e4, r_neb]
      have a3 : evalS W L (callF W L M) none (.for_ (.nm 9) .seq [(.var 4)] body3) [s0, s1, some (.ob y), s3, some (.ob w), some (toD a), s6, some (toD b), some (.bl told), s9] h4 = .ok (.nx [s0, s1, some (.ob y), s3, some (.ob w), some (toD a), s6, some (toD b), some (.bl told), c9]) h5 := by
        have i5 : evalEs W (callF W L M) none [(.var 4)] [s0, s1, some (.ob y), s3, some (.ob w), some (toD a), s6, some (toD b), some (.bl told), s9] h4 = .ok [.ob w] h4 := by simp [q_set, q_put, q_expr, q_ret, q_retN, q_ife, q_cons, q_nil, q_cst, q_bin, q_neg, q_cmp, q_and, q_or, q_not, q_eife, q_tup, q_lst, q_dic, q_ix, q_slc, q_cal, q_blt, q_enil, q_econs, q_met, q_fld, q_fset, r_for, r_lc, r_var, r_ix_ob, r_sl_ob, r_put_ob, r_len_ob, r_tup_ob, r_lst_ob, r_addl, r_app, r_it_ob, r_in_ob, r_nin_ob, r_fld, r_fset, r_isList_ob, optI, Rf.start]
        rw [r_for, i5, R.stm_ok, r_it_ob, kk.2 _ _ hw, itO_l, ofO_some, R.stm_ok]
        exact e5
      rw [q_cons, a1, RS.then_nx, q_cons, a2, RS.then_nx, q_cons, a3, RS.then_nx, q_nil]
abbrev body1 : List S := [.set 6 (.cal 9 [(.var 2), (.var 5)]),
    .ife (.or (.not (.cal 18 [(.var 2), (.var 5), (.var 5)])) (.or (.not (.cal 18 [(.var 2), (.var 5), (.var 6)])) (.not (.cal 18 [(.var 2), (.var 6), (.var 5)]))))
      [.ret (.cst (.bl false))]
      [],
    .for_ (.nm 7) .seq [(.var 4)] body2]
theorem loop1 (U : Uni nms kvs V) (hV : ∀ t ∈ V, dl t ∈ V) (M : Nat) (hM : 24 ≤ M) (hL : 16000002 ≤ L) (w : Nat) (all : List T) (hall : ∀ t ∈ all, t ∈ V) (s0 s1 s3 : Option D) : ∀ (xs : List T), (∀ t ∈ xs, t ∈ V) → ∀ (s5 s6 s7 s8 s9 : Option D) (h : Hs), h[w]? = some (.lst (all.map toD)) → h[y]? = some (.dic false false kvs) →
    ∃ (s5' s6' s7' s8' s9' : Option D) (h' : Hs), forI (.keep w (.lst (all.map toD))) (fT W L (callF W L M) (.nm 5) body1) (xs.map toD) [s0, s1, some (.ob y), s3, some (.ob w), s5, s6, s7, s8, s9] h = .ok (.nx [s0, s1, some (.ob y), s3, some (.ob w), s5', s6', s7', s8', s9']) h'
  | [], _, s5, s6, s7, s8, s9, h, hw, _ => ⟨s5, s6, s7, s8, s9, h, forI_nil hw⟩
  | a :: xs, hv, s5, s6, s7, s8, s9, h, hw, hy => by
    classical
    have ha := hv a List.mem_cons_self
    obtain ⟨m, hr, hm, va, na⟩ := U.hd ha
    have hh := U.hd_self va na
    have q := sub_refl U va na
    obtain ⟨h1, e1, k1⟩ := lhead_ok hW L U.tb y hr M h false (by omega) hy
    obtain ⟨h2, e2, k2⟩ := is_subtalk_ok hW hC hP L U M (by omega) hL ha ha h1 (k1.2 _ _ hy)
    have k12 := k1.trans k2
    obtain ⟨h3, e3, k3⟩ := is_subtalk_ok hW hC hP L U M (by omega) hL ha va h2 (k12.2 _ _ hy)
    have k123 := k12.trans k3
    obtain ⟨h4, e4, k4⟩ := is_subtalk_ok hW hC hP L U M (by omega) hL va ha h3 (k123.2 _ _ hy)
    rw [decide_eq_true q] at e2
    rw [hh, decide_eq_true q] at e3 e4
    have kk := k123.trans k4
    obtain ⟨c7, c8, c9, h5, e5, k5⟩ := loop2 hW hC hP L U hV M hM hL w all hall s0 s1 s3 (some (toD (hd nms kvs a))) ha all hall s7 s8 s9 h4 (kk.2 _ _ hw) (kk.2 _ _ hy)
    obtain ⟨d5, d6, d7, d8, d9, h6, e6⟩ := loop1 U hV M hM hL w all hall s0 s1 s3 xs (fun x hx => hv x (List.mem_cons_of_mem _ hx)) (some (toD a)) (some (toD (hd nms kvs a))) c7 c8 c9 h5 ((kk.trans k5).2 _ _ hw) ((kk.trans k5).2 _ _ hy)
    refine ⟨d5, d6, d7, d8, d9, h6, ?_⟩
    rw [List.map_cons, forI_nx (h' := h5) (σ' := [s0, s1, some (.ob y), s3, some (.ob w), some (toD a), some (toD (hd nms kvs a)), c7, c8, c9]) (show same (.keep w (.lst (all.map toD))) h from hw) ?_]
    · exact e6
    · rw [fT_some (σ1 := [s0, s1, some (.ob y), s3, some (.ob w), some (toD a), s6, s7, s8, s9]) rfl]
      have a1 : evalS W L (callF W L M) none (.set 6 (.cal 9 [(.var 2), (.var 5)])) [s0, s1, some (.ob y), s3, some (.ob w), some (toD a), s6, s7, s8, s9] h = .ok (.nx [s0, s1, some (.ob y), s3, some (.ob w), some (toD a), some (toD (hd nms kvs a)), s7, s8, s9]) h1 := by
        simp [q_set, q_put, q_expr, q_ret, q_retN, q_ife, q_cons, q_nil, q_cst, q_bin, q_neg, q_cmp, q_and, q_or, q_not, q_eife, q_tup, q_lst, q_dic, q_ix, q_slc, q_cal, q_blt, q_enil, q_econs, q_met, q_fld, q_fset, r_for, r_lc, r_var, r_ix_ob, r_sl_ob, r_put_ob, r_len_ob, r_tup_ob, r_lst_ob, r_addl, r_app, r_it_ob, r_in_ob, r_nin_ob, r_fld, r_fset, r_isList_ob, optI, Rf.start, e1]
      have a2 : evalS W L (callF W L M) none (.ife (.or (.not (.cal 18 [(.var 2), (.var 5), (.var 5)])) (.or (.not (.cal 18 [(.var 2), (.var 5), (.var 6)])) (.not (.cal 18 [(.var 2), (.var 6), (.var 5)])))) [.ret (.cst (.bl false))] []) [s0, s1, some (.ob y), s3, some (.ob w), some (toD a), some (toD (hd nms kvs a)), s7, s8, s9] h1 = .ok (.nx [s0, s1, some (.ob y), s3, some (.ob w), some (toD a), some (toD (hd nms kvs a)), s7, s8, s9]) h4 := by
        simp [q_set, q_put, q_expr, q_ret, q_retN, q_ife, q_cons, q_nil, q_cst, q_bin, q_neg, q_cmp, q_and, q_or, q_not, q_eife, q_tup, q_lst, q_dic, q_ix, q_slc, q_cal, q_blt, q_enil, q_econs, q_met, q_fld, q_fset, r_for, r_lc, r_var, r_ix_ob, r_sl_ob, r_put_ob, r_len_ob, r_tup_ob, r_lst_ob, r_addl, r_app, r_it_ob, r_in_ob, r_nin_ob, r_fld, r_fset, r_isList_ob, optI, Rf.start, e2, e3, e4]
      have a3 : evalS W L (callF W L M) none (.for_ (.nm 7) .seq [(.var 4)] body2) [s0, s1, some (.ob y), s3, some (.ob w), some (toD a), some (toD (hd nms kvs a)), s7, s8, s9] h4 = .ok (.nx [s0, s1, some (.ob y), s3, some (.ob w), some (toD a), some (toD (hd nms kvs a)), c7, c8, c9]) h5 := by
        have i5 : evalEs W (callF W L M) none [(.var 4)] [s0, s1, some (.ob y), s3, some (.ob w), some (toD a), some (toD (hd nms kvs a)), s7, s8, s9] h4 = .ok [.ob w] h4 := by simp [q_set, q_put, q_expr, q_ret, q_retN, q_ife, q_cons, q_nil, q_cst, q_bin, q_neg, q_cmp, q_and, q_or, q_not, q_eife, q_tup, q_lst, q_dic, q_ix, q_slc, q_cal, q_blt, q_enil, q_econs, q_met, q_fld, q_fset, r_for, r_lc, r_var, r_ix_ob, r_sl_ob, r_put_ob, r_len_ob, r_tup_ob, r_lst_ob, r_addl, r_app, r_it_ob, r_in_ob, r_nin_ob, r_fld, r_fset, r_isList_ob, optI, Rf.start]
        rw [r_for, i5, R.stm_ok, r_it_ob, kk.2 _ _ hw, itO_l, ofO_some, R.stm_ok]
        exact e5
      rw [q_cons, a1, RS.then_nx, q_cons, a2, RS.then_nx, q_cons, a3, RS.then_nx, q_nil]
theorem law_run (hL : 16000002 ≤ L) (N : Nat) (hN : 28 ≤ N) (ns : List Int) (d : D) (h : Hs) (hl : bltC W .list [d] h = .ok (.ob h.length) (h ++ [.lst (ns.map D.int)])) :
    ∃ h', callF W L N 23 [d] h = .ok (.bl true) h' := by
  obtain ⟨M, rfl⟩ : ∃ M, N = M + 1 := ⟨N - 1, by omega⟩
  rw [callF_s (hW 23 _ (by decide) rfl) rfl]
  obtain ⟨p, q, h1, e1, P1⟩ := pool_ok hW L M (by omega) ns d h hl
  obtain ⟨y, kvs, nms, tals, h2, e2, B, y2, P2⟩ := tb_ok hW L M (by omega) ns h1 P1
  obtain ⟨t1, t2, z, h3, e3, z3, o1, o2, P3, k3, lz, hzp⟩ := two_ok hW L B M (by omega) ns h2 P2 y2
  have y3 := k3.2 y _ B.yp y2
  have o25 : okT nms 5 t2 5 := (okT_mono (by omega)).1 _ _ (by omega) o2
  obtain ⟨r, m, hr, hm, hro⟩ := B.res o25
  have or3 : okT nms 4 r 3 := by
    rcases hro with rfl | q
    · exact o2
    · exact (okT_mono (by omega)).1 _ _ (by omega) q
  obtain ⟨h4, e4, k4⟩ := lhead_ok hW L B.tb y hr M h3 false (by omega) y3
  have P4 : PO p q ns h4 := by
    obtain ⟨h0, a, k, hk, f1, f2⟩ := P3
    exact ⟨h0, a, k, hk, k4.2 _ _ f1, k4.2 _ _ f2⟩
  obtain ⟨t3, h5, e5, o3, P5, k5⟩ := near_ok hW L p q ns 4 (by omega) (by omega) B.yp B.yq B.em ⟨B.n0, B.n3, B.nm⟩ r 3 or3 M h4 (by omega) P4 (k4.2 _ _ y3)
  have y5 := k5.2 y _ B.yp (k4.2 _ _ y3)
  have z4 := k4.2 _ _ z3
  have z5 := k5.2 z _ hzp z4
  have ho : ∀ t ∈ [t1, t2, t3], okT nms 5 t 5 := by
    intro t ht
    simp only [List.mem_cons, List.not_mem_nil, or_false] at ht
    rcases ht with rfl | rfl | rfl
    · exact (okT_mono (by omega)).1 _ _ (by omega) o1
    · exact o25
    · exact (okT_mono (by omega)).1 _ _ (by omega) o3
  have c1 := cnt_le o1
  have c2 := cnt_le o2
  have c3 := cnt_le o3
  have U := B.uni [t1, t2, t3] ho (by
    simp only [List.map_cons, List.map_nil, List.sum_cons, List.sum_nil]
    have d1 : zN 3 2 = 13 := rfl
    have d2 : zN 4 3 = 85 := rfl
    have d3 : zN (4 + 1) (3 + 1) = 781 := rfl
    omega)
  have hall : ∀ t ∈ [t1, t2, t3], t ∈ VV nms (tals ++ [t1, t2, t3]) := fun t ht => VV_own ht
  have eb : f_law.body = [.set 1 (.cal 2 [(.var 0)]), .set 2 (.cal 7 [(.var 1)]), .set 3 (.cal 22 [(.var 1), (.var 2)]),
    .set 4 (.bin .add (.var 3) (.lst [(.cal 21 [(.var 1), (.var 2), (.cal 9 [(.var 2), (.ix (.var 3) (.cst (.int 1)))])])])),
    .for_ (.nm 5) .seq [(.var 4)] body1, .ret (.cst (.bl true))] := rfl
  have es : Rf.start f_law.ns [d] = [some d, none, none, none, none, none, none, none, none, none] := rfl
  rw [eb, es]
  have s1 : evalS W L (callF W L M) none (.set 1 (.cal 2 [(.var 0)])) [some d, none, none, none, none, none, none, none, none, none] h = .ok (.nx [some d, some (.ob p), none, none, none, none, none, none, none, none]) h1 := by simp [q_set, q_put, q_expr, q_ret, q_retN, q_ife, q_cons, q_nil, q_cst, q_bin, q_neg, q_cmp, q_and, q_or, q_not, q_eife, q_tup, q_lst, q_dic, q_ix, q_slc, q_cal, q_blt, q_enil, q_econs, q_met, q_fld, q_fset, r_for, r_lc, r_var, r_ix_ob, r_sl_ob, r_put_ob, r_len_ob, r_tup_ob, r_lst_ob, r_addl, r_app, r_it_ob, r_in_ob, r_nin_ob, r_fld, r_fset, r_isList_ob, optI, Rf.start, e1]
  have s2 : evalS W L (callF W L M) none (.set 2 (.cal 7 [(.var 1)])) [some d, some (.ob p), none, none, none, none, none, none, none, none] h1 = .ok (.nx [some d, some (.ob p), some (.ob y), none, none, none, none, none, none, none]) h2 := by simp [q_set, q_put, q_expr, q_ret, q_retN, q_ife, q_cons, q_nil, q_cst, q_bin, q_neg, q_cmp, q_and, q_or, q_not, q_eife, q_tup, q_lst, q_dic, q_ix, q_slc, q_cal, q_blt, q_enil, q_econs, q_met, q_fld, q_fset, r_for, r_lc, r_var, r_ix_ob, r_sl_ob, r_put_ob, r_len_ob, r_tup_ob, r_lst_ob, r_addl, r_app, r_it_ob, r_in_ob, r_nin_ob, r_fld, r_fset, r_isList_ob, optI, Rf.start, e2]
  have s3 : evalS W L (callF W L M) none (.set 3 (.cal 22 [(.var 1), (.var 2)])) [some d, some (.ob p), some (.ob y), none, none, none, none, none, none, none] h2 = .ok (.nx [some d, some (.ob p), some (.ob y), some (.ob z), none, none, none, none, none, none]) h3 := by simp [q_set, q_put, q_expr, q_ret, q_retN, q_ife, q_cons, q_nil, q_cst, q_bin, q_neg, q_cmp, q_and, q_or, q_not, q_eife, q_tup, q_lst, q_dic, q_ix, q_slc, q_cal, q_blt, q_enil, q_econs, q_met, q_fld, q_fset, r_for, r_lc, r_var, r_ix_ob, r_sl_ob, r_put_ob, r_len_ob, r_tup_ob, r_lst_ob, r_addl, r_app, r_it_ob, r_in_ob, r_nin_ob, r_fld, r_fset, r_isList_ob, optI, Rf.start, e3]
  have l5 : (h5 ++ [MO.lst [toD t3]])[h5.length]? = some (.lst [toD t3]) := lk_new
  have z6 : (h5 ++ [MO.lst [toD t3]])[z]? = some (.lst [toD t1, toD t2]) := lk_app z5
  have s4 : evalS W L (callF W L M) none (.set 4 (.bin .add (.var 3) (.lst [(.cal 21 [(.var 1), (.var 2), (.cal 9 [(.var 2), (.ix (.var 3) (.cst (.int 1)))])])]))) [some d, some (.ob p), some (.ob y), some (.ob z), none, none, none, none, none, none] h3 = .ok (.nx [some d, some (.ob p), some (.ob y), some (.ob z), some (.ob (h5.length + 1)), none, none, none, none, none]) ((h5 ++ [.lst [toD t3]]) ++ [.lst ([t1, t2, t3].map toD)]) := by
    have i1 : atI [toD t1, toD t2] 1 = some (toD t2) := atI_1 _ _ _
    generalize eH : (h5 ++ [MO.lst [toD t3]]) = H5 at l5 z6 ⊢
    have lH : H5.length = h5.length + 1 := by rw [← eH]; simp
    rw [← lH]
    simp [q_set, q_put, q_expr, q_ret, q_retN, q_ife, q_cons, q_nil, q_cst, q_bin, q_neg, q_cmp, q_and, q_or, q_not, q_eife, q_tup, q_lst, q_dic, q_ix, q_slc, q_cal, q_blt, q_enil, q_econs, q_met, q_fld, q_fset, r_for, r_lc, r_var, r_ix_ob, r_sl_ob, r_put_ob, r_len_ob, r_tup_ob, r_lst_ob, r_addl, r_app, r_it_ob, r_in_ob, r_nin_ob, r_fld, r_fset, r_isList_ob, optI, Rf.start, z3, i1, e4, e5, eH, l5, z6, sizeLine]
  have g6 : ((h5 ++ [MO.lst [toD t3]]) ++ [MO.lst ([t1, t2, t3].map toD)])[h5.length + 1]? = some (.lst ([t1, t2, t3].map toD)) := by
    have := lk_new (h := h5 ++ [MO.lst [toD t3]]) (o := .lst ([t1, t2, t3].map toD))
    rw [List.length_append] at this
    exact this
  obtain ⟨c5, c6, c7, c8, c9, h6, e6⟩ := loop1 hW hC hP L U VV_dl M (by omega) hL (h5.length + 1) [t1, t2, t3] hall (some d) (some (.ob p)) (some (.ob z)) [t1, t2, t3] hall none none none none none _ g6 (lk_app (lk_app y5))
  have s5 : evalS W L (callF W L M) none (.for_ (.nm 5) .seq [(.var 4)] body1) [some d, some (.ob p), some (.ob y), some (.ob z), some (.ob (h5.length + 1)), none, none, none, none, none] ((h5 ++ [.lst [toD t3]]) ++ [.lst ([t1, t2, t3].map toD)]) = .ok (.nx [some d, some (.ob p), some (.ob y), some (.ob z), some (.ob (h5.length + 1)), c5, c6, c7, c8, c9]) h6 := by
    have i5 : evalEs W (callF W L M) none [(.var 4)] [some d, some (.ob p), some (.ob y), some (.ob z), some (.ob (h5.length + 1)), none, none, none, none, none] ((h5 ++ [.lst [toD t3]]) ++ [.lst ([t1, t2, t3].map toD)]) = .ok [.ob (h5.length + 1)] ((h5 ++ [.lst [toD t3]]) ++ [.lst ([t1, t2, t3].map toD)]) := by
      generalize ((h5 ++ [MO.lst [toD t3]]) ++ [MO.lst ([t1, t2, t3].map toD)]) = H
      simp [q_set, q_put, q_expr, q_ret, q_retN, q_ife, q_cons, q_nil, q_cst, q_bin, q_neg, q_cmp, q_and, q_or, q_not, q_eife, q_tup, q_lst, q_dic, q_ix, q_slc, q_cal, q_blt, q_enil, q_econs, q_met, q_fld, q_fset, r_for, r_lc, r_var, r_ix_ob, r_sl_ob, r_put_ob, r_len_ob, r_tup_ob, r_lst_ob, r_addl, r_app, r_it_ob, r_in_ob, r_nin_ob, r_fld, r_fset, r_isList_ob, optI, Rf.start]
    rw [r_for, i5, R.stm_ok, r_it_ob, g6, itO_l, ofO_some, R.stm_ok]
    exact e6
  refine ⟨h6, ?_⟩
  rw [q_cons, s1, RS.then_nx, q_cons, s2, RS.then_nx, q_cons, s3, RS.then_nx, q_cons, s4, RS.then_nx, q_cons, s5, RS.then_nx]
  simp [q_set, q_put, q_expr, q_ret, q_retN, q_ife, q_cons, q_nil, q_cst, q_bin, q_neg, q_cmp, q_and, q_or, q_not, q_eife, q_tup, q_lst, q_dic, q_ix, q_slc, q_cal, q_blt, q_enil, q_econs, q_met, q_fld, q_fset, r_for, r_lc, r_var, r_ix_ob, r_sl_ob, r_put_ob, r_len_ob, r_tup_ob, r_lst_ob, r_addl, r_app, r_it_ob, r_in_ob, r_nin_ob, r_fld, r_fset, r_isList_ob, optI, Rf.start]
end
end K13
end

section
set_option maxHeartbeats 0
namespace K13
open PySem PySem.Spec PyProof.Rows L2 Rf
def fa : List He.Fa := pg.fa
abbrev RO : PySem.W.OpenRow := PySem.W.OpenLaw.row PySem.Challenge.rw_pourparler_k13_subtalk_order
abbrev hk : PySem.W.Hook := He.hookX 5 fa defs [] (pg.tf.map (·.1)) pg.exB
def ob (s : PySem.W.SharedT) : He.AlX := He.obsX 5 fa defs [] (pg.tf.map (·.1)) pg.exB (HandSHeadRun.getT s)
theorem ob_eq (s : PySem.W.SharedT) : ob s = hk.obs s.abs := He.obsX_eq (HandSHeadRun.getT_eq s)
theorem run (w : World) : HandSHeadRun.RunEq RO (PySem.W.view RO.prog [iLaw]) hk ob 6000 loose w := by
  intro os
  kernel_rfl
abbrev depth : Nat := 40
abbrev fuel : Nat := 100000000
end K13
end

section
set_option maxHeartbeats 0
open PySem PySem.W PySem.Calls PyProof.Rows
theorem K13.holds (hrun : ∀ (ns : List Int) (d : Rf.D) (h : Rf.Hs), ns.length ≤ 63 → (d = .ob 0 ∧ h = [.scr ns]) ∨ (d = .con K13.nCon ∧ h = []) → ∃ h', Rf.callF (K13.pg.wd ns) K13.fuel K13.depth K13.nLaw [d] h = .ok (.bl true) h') : PySem.Challenge.rw_pourparler_k13_subtalk_order.Holds := by
  w_on; o_law
  refine HandSHeadRun.head_any (r := OpenLaw.row PySem.Challenge.rw_pourparler_k13_subtalk_order) (q := view (OpenLaw.row PySem.Challenge.rw_pourparler_k13_subtalk_order).prog [K13.iLaw]) (H := K13.hk) (ob := K13.ob) (M := 6000) (loose := K13.loose) (d := HandSHeadRun.topDef (OpenLaw.row PySem.Challenge.rw_pourparler_k13_subtalk_order).prog K13.iLaw) (kwd := []) K13.ob_eq
    (by kernel_rfl) (fun s => by kernel_rfl) K13.run (by kernel_rfl) (by kernel_rfl) (by kernel_rfl) (by rfl) (by first | assumption | decide +kernel) (by decide +kernel) ⟨rfl, rfl, rfl, rfl, rfl, by decide +kernel⟩ ?hw ?hc
  case hw => w_witness2
  case hc =>
    refine Rf.walk_GT (l := PySem.Challenge.rw_pourparler_k13_subtalk_order) (n := 63) (k := 2 * K13.depth + 1) (x := "script") (CX := L2.CX0) rfl (by decide) (by kernel_rfl) ⟨rfl, by decide, by decide⟩ ?F (fun _ _ _ _ z => z)
    intro w mg fa h Y G hmg0
    obtain ⟨K, KX, c⟩ := Y
    have hmg : mg ("law" : PySem.Str) = some (.ref fa) := by
      have e : (HandSHeadRun.topDef (OpenLaw.row PySem.Challenge.rw_pourparler_k13_subtalk_order).prog K13.iLaw).name = ("law" : PySem.Str) := by kernel_rfl
      rw [← e]
      exact hmg0
    obtain ⟨fd, sp, hb, hs, hF⟩ := Rf.facts (p := K13.pg) (L := K13.fuel) (n := K13.depth) (f := K13.nLaw) (P := (PySem.Challenge.rw_pourparler_k13_subtalk_order).prog) (w := w) K13.okp rfl rfl rfl K13.ok_law hrun KX G hmg c.t.d c.more
    have tb : ∀ t ∈ K13.pg.tabs K, ∃ q ∈ K13.pg.tf.map (·.1), t = He.cT K q := fun t ht => by
      obtain ⟨q, hq, rfl⟩ := List.mem_map.mp ht
      exact ⟨q.1, List.mem_map.mpr ⟨q, hq, rfl⟩, rfl⟩
    exact ⟨K, fd, sp, K13.pg.tabs K, KX, fun t ht => (by obtain ⟨q, hq, rfl⟩ := tb t ht; exact c.empty q hq), fun t ht => (by obtain ⟨q, hq, rfl⟩ := tb t ht; exact c.out q hq), fun t ht => (by obtain ⟨q, hq, rfl⟩ := tb t ht; exact PySem.W.codeHd_of_K KX (c.hd q hq)), hb, hs, hF⟩
end

section
open PySem
theorem PySem.Challenge.cw_pourparler_k13_subtalk_order_holds : PySem.Challenge.rw_pourparler_k13_subtalk_order.Holds := by
  refine K13.holds fun ns d h _ q => ?_
  have hW : K13.Has (K13.pg.wd ns) := fun i fi _ e => e
  rcases q with ⟨rfl, rfl⟩ | ⟨rfl, rfl⟩
  · exact K13.law_run hW rfl rfl K13.fuel (by decide) K13.depth (by decide) ns (.ob 0) [.scr ns] rfl
  · exact K13.law_run hW rfl rfl K13.fuel (by decide) K13.depth (by decide) ns (.con 0) [] rfl
end
