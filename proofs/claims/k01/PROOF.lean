import PyProof.Rows.All
import Wide.All
import OpenK.AllK
import Wide.FinOn
import HandS.ForMost
import HandS.ForExc
import HandS.Defaults
import HandS.Ends
import HandS.Head0
import HandS.Head1
import HandS.Head2
import HandS.HeadEnd
import HandS.HeadHook1
import HandS.HeadHook2
import HandS.HeadHook3
import HandS.HeadHook4
import HandS.Flow
import HandS.Wide
import HandS.TupAny
import HandS.Conv
import HandS.TupLe
import HandS.IsInst
import HandS.RaiseMore
import HandS.Text
import HandS.More
import HandS.Style
import HandS.ExcInit
import HandS.ExcField
import HandS.TryMany
import HandS.CallLocal
import HandS.CallRecv
import HandS.StrMore
import HandS.Steps
import PyProof.StrLawsFirst
import PySem.Challenge.RW_pourparler_k01_refused_texts
set_option Elab.async false
set_option linter.all false
set_option maxRecDepth 100000
section
namespace Rf
open PySem PySem.Spec PyProof.Rows L2

/-! ## defs, where no container's text is under way -/
structure FnG (P : Program) (w : World) (K : PySem.W.Frag) (mg : Str → Option Value) (base : Heap) (CX : CXT) (k : Nat) (f : Addr) (fd : FuncData) (ps : List Str) (sp : Sp) : Prop where
  ln : ∀ vs H Q E, sp vs H Q E → vs.length = ps.length
  go : ∀ (A : Around) (out : List Env) (s : Shared) (H : Hp) (ar : Args) (us : List Value) (vs : List V) (Q : VK) (E : XK),
    A.guards = some [] → Room k A → Env0 P w K mg base A out s H → BindsTo s fd ar (ps.zip us) → Vals vs us → sp vs H Q E →
      codeAny (model P w) A (.call (.ref f) ar) (CR CX out P w H s Q E) s
theorem FnG.imp {P : Program} {w : World} {K : PySem.W.Frag} {mg : Str → Option Value} {base : Heap} {CX : CXT} {k : Nat} {f : Addr} {fd : FuncData} {ps : List Str} {sp sp' : Sp} (F : FnG P w K mg base CX k f fd ps sp)
    (h : ∀ vs H Q E, sp' vs H Q E → sp vs H Q E) : FnG P w K mg base CX k f fd ps sp' where
  ln := fun vs H Q E q => F.ln vs H Q E (h vs H Q E q)
  go := fun A out s H ar us vs Q E g hr e0 hb hv q => F.go A out s H ar us vs Q E g hr e0 hb hv (h vs H Q E q)
/-- a call's result, looked at -/
theorem cr_end {X : Cx} {CX : CXT} {pins : List (Addr × Obj)} {σ : L2.St} {H : Hp} {s s' : Shared} {Q : VK} {E : XK} {r : Result} (I : Inv X pins σ H s)
    (hx : ∀ e, r = .error e → CX X.stack H s E e s' → X.xe e s') (h : CR CX X.stack X.prog X.w H s Q E r s') :
    match r with | .ok (.ret u) => EP X pins σ Q u s' | .ok _ => False | .error e => X.xe e s' := by
  rcases r with e | fl
  · exact hx e rfl h
  · rcases fl with _ | _ | _ | u
    · exact h
    · exact h
    · exact h
    · exact I.after h
theorem run_G {X : Cx} {CX : CXT} {k : Nat} {f : Addr} {fd : FuncData} {ps : List Str} {sp : Sp} {E : L2.St → XK} {pins : List (Addr × Obj)} {σ : L2.St} {H : Hp} {s : Shared} {Q : VK} {us : List Value} {vs : List V}
    (F : FnG X.prog X.w X.K X.mg X.base CX k f fd ps sp) (g : X.A.guards = some []) (hr : Room k X.A) (hb : Binds X.K fd ps []) (hx : PassesAt CX X σ (E σ))
    (I : Inv X pins σ H s) (r : Vals vs us) (h : sp vs H Q (E σ)) : wpAny (model X.prog X.w) X.A (call (.ref f) us) (EP X pins σ Q) X.xe s := by
  have b := hb s us I.kIn (by rw [List.append_nil, ← r.length]; exact F.ln _ _ _ _ h)
  rw [List.append_nil] at b
  apply wpAny_call
  refine codeAny_mono (F.go X.A X.stack s H ⟨us, []⟩ us vs Q (E σ) g hr I.env0 b r h) fun r' s' q => ?_
  have z := cr_end I (fun e _ c => hx pins H s e s' I c) q
  rcases r' with e | fl
  · exact z
  · rcases fl with _ | _ | _ | u
    · exact z
    · exact z
    · exact z
    · exact z
/-- a def by its body -/
theorem fn_G {CX : CXT} {P : Program} {w : World} {K : PySem.W.Frag} {mg : Str → Option Value} {base : Heap} {k : Nat} {f : Addr} {fd : FuncData} {name qual : Str} {params : Arguments} {body : List Stmt} {scope : Scope} {dvs : List V} {kws : List (Str × V)}
    {N ps : List Str} {sp : Sp} (F : FunD K name qual params body scope dvs kws f fd) (S : FnScope N ps scope) (ln : ∀ vs H Q E, sp vs H Q E → vs.length = ps.length)
    (hbody : ∀ (cdv : Value) (A : Around) (out : List Env) (s : Shared) (H : Hp) (vs : List V) (Q : VK) (E : XK), A.guards = some [] → Room k (A.deeper (envOfC qual scope s.heap.objs.size f cdv)) → sp vs H Q E →
      ∃ t, PSs (cxOf CX P w K mg base N qual scope f cdv A out s H E) body t ∧ t { nx := fun _ H' => Q .non H', rt := Q } (L2.start N vs) H) :
    FnG P w K mg base CX (k + 1) f fd ps sp := by
  obtain ⟨oc, od, dV, kV, doc, pm, an, cdv, ct, osl, rfl, lk, hcd, _, _⟩ := F.ex
  constructor
  · exact ln
  intro A out s H ar us vs Q E g hr e0 hb r hsp
  have keep : ∀ b o, base.get? b = some o → s.heap.get? b = some o := fun b o e => (e0.bs b o e).1
  have KX := e0.mod.kin.keeps keep
  have lim := e0.mod.nolimit.keeps keep
  have hk : ∀ y ∈ ps.zip us, scope.names.lookup y.1 = some .local ∨
      (scope.names.lookup y.1 = some .cell ∧ ((cellsFrom (s.heap.objs.size + 1) scope.names []).lookup y.1).isSome = true) := by
    rintro ⟨n, v⟩ hy
    refine (S.par n (List.of_mem_zip hy).1).imp id fun q => ?_
    exact ⟨q, PySem.W.cellsFrom_some _ _ _ (.inl q)⟩
  apply codeAny_call_function hr.depth (KX _ _ lk) rfl S.co S.gen rfl (PySem.W.codeRec_of KX hcd)
  refine hb _ _ _ _ (wpAny_newFunctionEnv_cells S.kind hk fun env he s1 x => ?_)
  subst he
  refine ⟨lim.keeps x.toInCall.keep, codeAny_func ?_⟩
  obtain ⟨t, ht, hq⟩ := hbody cdv A out s H vs Q E g (hr.deeper _) hsp
  have I : Inv (cxOf CX P w K mg base N qual scope f cdv A out s H E) [] (L2.start N vs) H s1 :=
    inv_start S hr.hd e0 (ln _ _ _ _ hsp) r x
  refine wpAny_mono (ht.run [] s1 _ H _ I hq) (fun fl s' hs => ?_) fun _ _ q => q
  rcases fl with _ | _ | _ | u
  · obtain ⟨σ', H', J, q⟩ := hs
    exact ⟨.non, H', J.os, J.bare, J.base, J.hok, rfl, q⟩
  · obtain ⟨_, _, _, q⟩ := hs; exact q.elim
  · obtain ⟨_, _, _, q⟩ := hs; exact q.elim
  · obtain ⟨v, σ', H', J, rv, q⟩ := hs
    exact ⟨v, H', J.os, J.bare, J.base, J.hok, rv, q⟩
/-- the law's call -/
theorem law_G {P : Program} {w : World} {K : PySem.W.Frag} {mg mb : Str → Option Value} {CX : CXT} {k : Nat} {fa a : Addr} {fd : FuncData} {x : Str} {sp : Sp} {s₁ : Shared} {vs : List Value} {ns : List Int}
    (KX : K.In s₁.heap) (hns : s₁.heap.Ns mainGlobals mg) (hb : s₁.heap.Ns builtinsNs mb) (hbb : ∀ x : Str, x ≠ "__name__" → mb x = bootBuiltins x) (lim : s₁.heap.NoLimit) (hg : s₁.gens = #[])
    (ha : s₁.heap.get? a = some { cls := .type "list", data := .seq vs.toArray }) (hi : IntsAre vs ns) (hl : ns.length ≤ sizeLine) (hr : Room k callerA)
    (F : ∀ base : Heap, K.In base → base.Ns mainGlobals mg → FnG P w K mg base CX k fa fd [x] sp) (bind : ∀ (s : Shared) (u : Value), BindsTo s fd ⟨[u], []⟩ [(x, u)])
    (hsp : ∀ H : Hp, Only H → SqL K H a (ns.map V.int) → sp [.ref a] H (fun v _ => v = .bl true) fun _ _ _ => False)
    (hCX : ∀ H e s', CX [] H s₁ (fun _ _ _ => False) e s' → False) :
    codeAny (model P w) callerA (.call (.ref fa) ⟨[.ref a], []⟩) (fun r s' => r = .ok (.ret (.bool true)) ∧ OldK s₁.heap s'.heap ∧ s'.os = s₁.os ∧ AllBare s'.gens) s₁ := by
  have main : ∀ H : Hp, Only H → SqL K H a (ns.map V.int) → HOk P w H s₁.heap →
      ((∀ b, H b = none) ∨ ((∀ b, b ≠ a → H b = none) ∧ K.lookup a = none)) →
      codeAny (model P w) callerA (.call (.ref fa) ⟨[.ref a], []⟩) (fun r s' => r = .ok (.ret (.bool true)) ∧
        OldK s₁.heap s'.heap ∧ s'.os = s₁.os ∧ AllBare s'.gens) s₁ := by
    intro H hO hS hok hA
    have hd : ∀ {b : Addr} {o : Obj} {es : Array DictEntry} {ep : Nat}, s₁.heap.get? b = some o → o.data = .dict es ep → H b = none := by
      intro b o es ep e d
      rcases hA with hA | ⟨hA, _⟩
      · exact hA b
      · by_cases hba : b = a
        · subst hba
          rw [ha] at e; cases e
          cases d
        · exact hA b hba
    have ns' : ∀ {b : Addr} {m : Str → Option Value}, s₁.heap.Ns b m → (hidT s₁.heap H).Ns b m := by
      rintro b m ⟨o, es, ep, e, d, r⟩
      exact ⟨o, es, ep, hidT_get e (hd e d), d, r⟩
    have hK : K.In (hidT s₁.heap H) := by
      intro b o e
      refine hidT_get (KX b o e) ?_
      rcases hA with hA | ⟨hA, hn⟩
      · exact hA b
      · refine hA b fun q => ?_
        rw [q, hn] at e; cases e
    have hM : Mod K mg (hidT s₁.heap H) := by
      obtain ⟨mc, h1, h2⟩ := lim
      exact ⟨hK, ns' hns, ⟨mb, ns' hb, hbb⟩, mc, ns' h1, h2⟩
    have e0 : Env0 P w K mg (hidT s₁.heap H) callerA [] s₁ H := by
      refine ⟨rfl, hM, fun b o e => of_hidT e, Nat.le_of_eq (hidT_size _ _), trivial, ?_, hok, .of_eq hg⟩
      intro b hb
      exact absurd (show b ∈ ([] : List Addr) from hb) List.not_mem_nil
    have Z := (F _ hK (ns' hns)).go callerA [] s₁ H ⟨[.ref a], []⟩ [.ref a] [.ref a] _ _ rfl hr e0 (bind s₁ (.ref a)) (.cons rfl .nil) (hsp H hO hS)
    refine codeAny_mono Z fun r s' h => ?_
    rcases r with e | fl
    · exact (hCX H e s' h).elim
    rcases fl with _ | _ | _ | u
    · exact h.elim
    · exact h.elim
    · exact h.elim
    obtain ⟨v, H', os, bare, un, hok', r', q⟩ := h
    obtain rfl : v = .bl true := q
    obtain rfl : u = Value.bool true := r'
    refine ⟨rfl, OldK.of_keep fun b o e => ?_, os, bare⟩
    rcases hO b with z | ⟨ob, xs, z⟩
    · exact un.keep b o e z (fun m => absurd (show b ∈ ([] : List Addr) from m) List.not_mem_nil) List.not_mem_nil
    · obtain ⟨e1, _⟩ := hok b _ z
      obtain ⟨e2, _⟩ := hok' b _ (un.frzs b ob _ z)
      rw [e] at e1; cases e1
      exact e2
  have rv := vals_ints hi
  cases hk : K.lookup a with
  | some o =>
    have e := KX a o hk
    rw [ha] at e; cases e
    refine main (fun _ => none) (fun _ => .inl rfl) ?_ (fun b u z => ?_) (.inl fun _ => rfl)
    · exact .inr ⟨_, vs.toArray, _, hk, rfl, rfl, rfl, by rw [List.size_toArray, hi.length]; exact hl, by simpa using rv⟩
    · cases (show (none : Option HO) = some u from z)
  | none =>
    refine main (fun b => if b = a then some (.frz { cls := .type "list", data := .seq vs.toArray } (.lst (ns.map V.int))) else none) ?_ ?_ ?_ (.inr ⟨fun b hb => if_neg hb, hk⟩)
    · intro b
      by_cases e : b = a
      · exact .inr ⟨_, _, if_pos e⟩
      · exact .inl (if_neg e)
    · exact .inl (.inr ⟨{ cls := .type "list", data := .seq vs.toArray }, if_pos rfl⟩)
    · intro b u z
      by_cases e : b = a
      · have z' := (if_pos e).symm.trans z
        cases z'
        subst e
        exact ⟨ha, by rw [List.length_map]; exact hl, vs, _, rv, ha⟩
      · cases (if_neg e).symm.trans z
/-- the end of the head -/
theorem walk_G {l : PySem.W.OpenLaw} {n k : Nat} {q : Program} {loose : List Str} {XP : (Str → Option Value) → Heap → Prop} {YP : World → Heap → Prop} {d : DefRec} {CX : CXT} {x : Str}
    (hn : l.most = some n) (hn2 : n ≤ sizeLine) (hdf : d.params.defaults = []) (hr : Room k callerA)
    (F : ∀ (w : World) (mg : Str → Option Value) (fa : Addr) (h : Heap), YP w h → h.Ns mainGlobals mg → mg d.name = some (.ref fa) →
      ∃ (K : PySem.W.Frag) (fd : FuncData) (sp : Sp), K.In h ∧ (∀ (s : Shared) (u : Value), BindsTo s fd ⟨[u], []⟩ [(x, u)]) ∧
        (∀ (H : Hp) (a : Addr) (ns : List Int), ns.length ≤ n → Only H → SqL K H a (ns.map V.int) → sp [.ref a] H (fun v _ => v = .bl true) fun _ _ _ => False) ∧
        ∀ base : Heap, K.In base → base.Ns mainGlobals mg → FnG l.prog w K mg base CX k fa fd [x] sp)
    (hCX : ∀ (H : Hp) (s : Shared) (e : Value) (s' : Shared), CX [] H s (fun _ _ _ => False) e s' → False) :
    PySem.W.WalkO q loose XP YP l.row.toRowW d [] (fun f vs => PySem.call f vs) := by
  refine Att.attach_call hn hdf fun w s₀ s₁ mg mb fa o pm cd doc a vs ns G Y ho hd hcd hmg hobj hints hlen hg => ?_
  obtain ⟨K, fd, sp, KX, bd, hs, hF⟩ := F w mg fa _ Y G.T.g hmg
  exact law_G KX G.T.g G.T.b G.T.builtins G.T.nolimit hg hobj hints (Nat.le_trans hlen hn2) hr hF bd
    (fun H hO hS => hs H a ns hlen hO hS) fun H e s' => hCX H s₁ e s'
end Rf
end

section
namespace Rf
open PySem PySem.Spec PyProof.Rows L2

/-! ## data, heaps, programs -/
inductive D where
  | non | bl (b : Bool) | int (i : Int) | str (s : List Char) | tup (xs : List D) | ob (n : Nat) | fn (i : Nat) | con (g : Nat)
  deriving Inhabited
inductive MO where
  | lst (xs : List D)
  | dic (lk t : Bool) (kvs : List (D × D))
  | ins (c : Nat) (fs : List (String × D))
  | scr (xs : List Int)
abbrev Hs := List MO
abbrev Sg := List (Option D)

inductive R (α : Type) where
  | ok (a : α) (h : Hs) | exc (c : Nat) (fs : List (String × D)) (h : Hs) | no
def R.bind {α β : Type} (r : R α) (f : α → Hs → R β) : R β := match r with
  | .ok a h => f a h
  | .exc c fs h => .exc c fs h
  | .no => .no
@[simp] theorem R.bind_ok {α β : Type} (a : α) (h : Hs) (f : α → Hs → R β) : (R.ok a h).bind f = f a h := rfl
@[simp] theorem R.bind_exc {α β : Type} (c fs h) (f : α → Hs → R β) : (R.exc c fs h : R α).bind f = .exc c fs h := rfl
@[simp] theorem R.bind_no {α β : Type} (f : α → Hs → R β) : (R.no : R α).bind f = .no := rfl

mutual
def toPy : D → PyData
  | .non => .none
  | .bl b => .bool b
  | .int i => .int i
  | .str s => .str ⟨(s.map Char.toNat).toArray⟩
  | .tup xs => .tuple (toPys xs)
  | .ob _ => .none
  | .fn _ => .none
  | .con _ => .none
def toPys : List D → List PyData
  | [] => []
  | x :: xs => toPy x :: toPys xs
end
mutual
def pur : D → Bool
  | .tup xs => purs xs
  | .ob _ => false
  | .fn _ => false
  | .con _ => false
  | _ => true
def purs : List D → Bool
  | [] => true
  | x :: xs => pur x && purs xs
end
mutual
def dep : D → Nat
  | .tup xs => deps xs + 1
  | _ => 0
def deps : List D → Nat
  | [] => 0
  | x :: xs => max (dep x) (deps xs)
end
mutual
def eqv : D → D → Bool
  | .non, .non => true
  | .bl a, .bl b => a == b
  | .bl a, .int j => (if a then 1 else 0) == j
  | .int i, .bl b => i == (if b then 1 else 0)
  | .int i, .int j => i == j
  | .str x, .str y => x == y
  | .tup xs, .tup ys => eqvs xs ys
  | _, _ => false
def eqvs : List D → List D → Bool
  | [], [] => true
  | x :: xs, y :: ys => eqv x y && eqvs xs ys
  | _, _ => false
end
def flat (d : D) : Bool := pur d && decide (dep d ≤ 64)

/-- == -/
def eqD (h : Hs) (x y : D) : Option Bool :=
  match x, y with
  | .ob n, .ob m => match h[n]?, h[m]? with
    | some (.lst xs), some (.lst ys) => if purs xs && purs ys && decide (deps xs ≤ 60) && decide (deps ys ≤ 60) then some (eqvs xs ys) else none
    | _, _ => none
  | _, _ => if flat x && flat y then some (eqv x y) else none

inductive Op where | add | sub | mul | fdiv | mod
  deriving DecidableEq
inductive Cp where | eq | ne | lt | le | gt | ge | in_ | nin | is_ | isn
  deriving DecidableEq
/-- what is walked -/
inductive Ik where | seq | rng1 | rng2 | keys | items | vals | zip | enum | rev
  deriving DecidableEq
inductive Tg where | nm (i : Nat) | tp (is : List Nat)
/-- built-in functions -/
inductive Bf where | len | abs | int | str | list | tuple | dict | min2 | max2 | isTup | isStr | isBool | isInt | isList | repr | sorted | bool | sum
  deriving DecidableEq

/-- methods of built-in values -/
inductive Mt where | update | append | extend | pop | insert | reverse | join | startswith | find | isalnum | get | lower
  deriving DecidableEq
inductive E where
  | var (i : Nat) | cst (d : D) | glb (g : Nat) | gst (g : Nat) (s : List Char) | gni (g : Nat) (i : Int) | fnv (f : Nat)
  | bin (o : Op) (a b : E) | neg (a : E)
  | cmp (o : Cp) (a b : E) | chn (o o' : Cp) (a b c : E)
  | and (a b : E) | or (a b : E) | not (a : E) | ife (c a b : E)
  | tup (es : List E) | lst (es : List E) | dic (t : Bool) (ks vs : List E)
  | ix (a i : E) | slc (a : E) (lo hi : List E) | back (a : E)
  | fld (a : E) (f : String)
  | cal (f : Nat) (es : List E) | cav (i : Nat) (es : List E)
  | new (c : Nat) (es : List E)
  | met (o : E) (m : String) (es : List E)
  | blt (b : Bf) (es : List E)
  | lc (own : List Nat) (tg : Tg) (k : Ik) (its : List E) (cd : List E) (el : E)
  | exf (i : Nat) (f : String)

inductive S where
  | set (i : Nat) (e : E) | setT (is : List Nat) (e : E)
  | put (o i e : E) | fset (o : E) (f : String) (e : E)
  | aug (i : Nat) (o : Op) (e : E) | faug (a : E) (f : String) (o : Op) (e : E)
  | expr (e : E) | ret (e : E) | retN
  | ife (c : E) (a b : List S) | whl (c : E) (b : List S)
  | for_ (tg : Tg) (k : Ik) (its : List E) (b : List S)
  | raise (c : Nat) (es : List E)
  | try_ (b : List S) (hs : List (Nat × Option Nat × List S))
  | brk | cnt | pass | stuck
structure FI where
  np : Nat
  ns : Nat
  body : List S
structure CI where
  meths : List (String × Nat)
  ini : Option Nat
  flds : List String
structure Wd where
  fns : List FI
  cls : List CI
  cons : List (List D)
  isa : Nat → Nat → Bool
  scr : List Int := []
  exf : Nat → List String := fun _ => []

/-! ## texts of data -/
def plC (c : Char) : Bool := decide (32 ≤ c.toNat) && decide (c.toNat < 127) && decide (c.toNat ≠ 39) && decide (c.toNat ≠ 92)
def joinC : List (List Char) → List Char
  | [] => []
  | [x] => x
  | x :: y :: r => x ++ ',' :: ' ' :: joinC (y :: r)
mutual
def rp : D → List Char
  | .non => ['N', 'o', 'n', 'e']
  | .bl true => ['T', 'r', 'u', 'e']
  | .bl false => ['F', 'a', 'l', 's', 'e']
  | .int i => (toString i).toList
  | .str s => '\'' :: s ++ ['\'']
  | .tup xs => '(' :: joinC (rps xs) ++ (match xs with | [_] => [',', ')'] | _ => [')'])
  | _ => []
def rps : List D → List (List Char)
  | [] => []
  | x :: xs => rp x :: rps xs
end
mutual
def rpOk : D → Bool
  | .int i => decide (i.natAbs.log2 < 1920)
  | .str s => s.all plC
  | .tup xs => rpsOk xs
  | .non => true
  | .bl _ => true
  | _ => false
def rpsOk : List D → Bool
  | [] => true
  | x :: xs => rpOk x && rpsOk xs
end

/-! ## operations -/
def len2 {α : Type} (a b : List α) : Bool := decide (a.length + b.length ≤ sizeLine)
def opD (o : Op) (x y : D) (h : Hs) : R D :=
  match o, x, y with
  | .add, .int i, .int j => .ok (.int (i + j)) h
  | .sub, .int i, .int j => .ok (.int (i - j)) h
  | .mul, .int i, .int j => if (-(2 ^ 64) < i ∧ i < 2 ^ 64) ∨ (-(2 ^ 64) < j ∧ j < 2 ^ 64) then .ok (.int (i * j)) h else .no
  | .fdiv, .int i, .int j => if j ≠ 0 ∧ j.natAbs < 1073741824 then .ok (.int (i.fdiv j)) h else .no
  | .mod, .int i, .int j => if j ≠ 0 then .ok (.int (i.fmod j)) h else .no
  | .add, .str s, .str t => if s.length + t.length ≤ sizeLine then .ok (.str (s ++ t)) h else .no
  | .add, .tup s, .tup t => if s.length + t.length ≤ sizeLine then .ok (.tup (s ++ t)) h else .no
  | .mul, .str s, .int k => if 1 ≤ k ∧ k < 1000000 ∧ s ≠ [] ∧ s.length * k.toNat ≤ 1000000 then .ok (.str (List.replicate k.toNat s).flatten) h else .no
  | .add, .ob n, .ob m => match h[n]?, h[m]? with
    | some (.lst s), some (.lst t) => if s.length + t.length ≤ sizeLine then .ok (.ob h.length) (h ++ [.lst (s ++ t)]) else .no
    | _, _ => .no
  | _, _, _ => .no
def inL (x : D) (ys : List D) : Bool := ys.any fun y => eqv y x
def cmpI (g : Int → Int → Bool) (x y : D) (h : Hs) : R D := match x, y with
  | .int i, .int j => .ok (.bl (g i j)) h
  | _, _ => .no
def cmpD (o : Cp) (x y : D) (h : Hs) : R D :=
  match o with
  | .eq => match eqD h x y with | some b => .ok (.bl b) h | none => .no
  | .ne => match eqD h x y with | some b => .ok (.bl (!b)) h | none => .no
  | .lt => cmpI (fun i j => decide (i < j)) x y h
  | .le => cmpI (fun i j => decide (i ≤ j)) x y h
  | .gt => cmpI (fun i j => decide (j < i)) x y h
  | .ge => cmpI (fun i j => decide (j ≤ i)) x y h
  | _ => .no
def truth (x : D) (h : Hs) : Option Bool := match x with
  | .non => some false
  | .bl b => some b
  | .int i => some (i != 0)
  | .str s => if s.length ≤ sizeLine then some (!s.isEmpty) else none
  | .tup s => some (!s.isEmpty)
  | .ob n => match h[n]? with
    | some (.lst s) => some (!s.isEmpty)
    | some (.scr s) => some (!s.isEmpty)
    | _ => none
  | .fn _ => none
  | .con _ => none
end Rf
end

section
namespace Rf
open PySem PySem.Spec PyProof.Rows L2

def st (s : List Char) : Str := ⟨(s.map Char.toNat).toArray⟩
structure Gx where
  W : Wd
  K : PySem.W.Frag
  fa : Nat → Option Addr
  ca : Nat → Option Addr
  ga : Nat → Option Addr
  xd : Option (Addr × List (String × D))
  ex : Option (Nat × Addr)

mutual
def Rep (G : Gx) (as : List Addr) (H : Hp) : D → V → Prop
  | .non, v => v = .non
  | .bl b, v => v = .bl b
  | .int i, v => v = .int i
  | .str s, v => v = .str (st s)
  | .tup ds, v => ∃ a vs, v = .ref a ∧ H a = some (.tup vs) ∧ Reps G as H ds vs
  | .ob n, v => ∃ a, v = .ref a ∧ as[n]? = some a
  | .fn i, v => ∃ a, v = .ref a ∧ G.fa i = some a
  | .con g, v => ∃ a, v = .ref a ∧ G.ga g = some a
def Reps (G : Gx) (as : List Addr) (H : Hp) : List D → List V → Prop
  | [], vs => vs = []
  | d :: ds, vs => ∃ v r, vs = v :: r ∧ Rep G as H d v ∧ Reps G as H ds r
end
/-- keys -/
def keyK : D → Option Key
  | .int i => some (.inl i)
  | .str s => some (.inr (st s))
  | _ => none
def keyKs : List D → Option (List Key)
  | [] => some []
  | d :: ds => match keyK d, keyKs ds with
    | some k, some ks => some (k :: ks)
    | _, _ => none
def keyT : D → Option (List Key)
  | .tup ds => keyKs ds
  | _ => none
def RepKV {κ : Type} (ky : D → Option κ) (G : Gx) (as : List Addr) (H : Hp) : List (D × D) → List (κ × V) → Prop :=
  Paired fun p q => ky p.1 = some q.1 ∧ Rep G as H p.2 q.2
def RepF (G : Gx) (as : List Addr) (H : Hp) : List (String × D) → List (Str × V) → Prop :=
  Paired fun p q => q.1 = Str.ofString p.1 ∧ Rep G as H p.2 q.2
def lkd (lk : Bool) (H : Hp) (a : Addr) (o : HO) : Prop := if lk then ∃ od, H a = some (.frz od o) else H a = some o
def ObR (G : Gx) (as : List Addr) (H : Hp) (a : Addr) : MO → Prop
  | .lst xs => ∃ vs, H a = some (.lst vs) ∧ Reps G as H xs vs
  | .dic lk false kvs => ∃ kv, lkd lk H a (.dK kv) ∧ RepKV keyK G as H kvs kv
  | .dic lk true kvs => ∃ kv, lkd lk H a (.dT kv) ∧ RepKV keyT G as H kvs kv
  | .ins c fs => ∃ C dx vs, G.ca c = some C ∧ H a = some (.ins C dx vs) ∧ RepF G as H fs vs
  | .scr ns => ∃ o, H a = some (.frz o (.lst (ns.map V.int)))
/-- the fields of the exception at hand -/
def XdR (G : Gx) (as : List Addr) (H : Hp) : Prop := ∀ dd fs, G.xd = some (dd, fs) → dd ∉ as ∧ ∃ vs, H dd = some (.xd vs) ∧ RepF G as H fs vs
structure HI (G : Gx) (h : Hs) (as : List Addr) (H : Hp) : Prop where
  xd : XdR G as H
  len : as.length = h.length
  nd : as.Nodup
  ob : ∀ (n : Nat) (mo : MO) (a : Addr), h[n]? = some mo → as[n]? = some a → ObR G as H a mo
structure SL (G : Gx) (σI : Sg) (as : List Addr) (H : Hp) (σ : L2.St) : Prop where
  len : σI.length = σ.length
  at_ : ∀ (i : Nat) (d : D), σI[i]? = some (some d) → ∃ v, σ[i]? = some (some v) ∧ Rep G as H d v
  ex : ∀ (i : Nat) (a : Addr), G.ex = some (i, a) → σI[i]? = some none → σ[i]? = some (some (.ref a))
structure Ext (as : List Addr) (H : Hp) (as' : List Addr) (H' : Hp) : Prop where
  pre : ∀ (n : Nat) (a : Addr), as[n]? = some a → as'[n]? = some a
  tup : ∀ (a : Addr) (xs : List V), H a = some (.tup xs) → H' a = some (.tup xs)
  frz : ∀ (a : Addr) (o : Obj) (u : HO), H a = some (.frz o u) → H' a = some (.frz o u)
  out : ∀ (a : Addr) (o : HO), H a = some o → a ∉ as' → H' a = some o
  fresh : ∀ (a : Addr), a ∈ as' → a ∉ as → H a = none
theorem Ext.refl {as H} : Ext as H as H := ⟨fun _ _ h => h, fun _ _ h => h, fun _ _ _ h => h, fun _ _ h _ => h, fun _ h h' => absurd h h'⟩
theorem Ext.mem {as H as1 H1} (x : Ext as H as1 H1) {a : Addr} (h : a ∈ as) : a ∈ as1 := by
  obtain ⟨n, hn⟩ := List.getElem?_of_mem h
  exact List.mem_of_getElem? (x.pre n a hn)
theorem Ext.trans {as H as1 H1 as2 H2} (a : Ext as H as1 H1) (b : Ext as1 H1 as2 H2) : Ext as H as2 H2 := by
  refine ⟨fun n x h => b.pre n x (a.pre n x h), fun x xs h => b.tup x xs (a.tup x xs h), fun x o u h => b.frz x o u (a.frz x o u h), fun x o h hn => b.out x o (a.out x o h fun q => hn (b.mem q)) hn, fun x h hn => ?_⟩
  by_cases hm : x ∈ as1
  · exact a.fresh x hm hn
  · cases e : H x with
    | none => rfl
    | some o =>
      have := b.fresh x h hm
      rw [a.out x o e hm] at this; cases this
mutual
theorem Rep.mono0 {G : Gx} {as H as' H'} (pre : ∀ (n : Nat) (a : Addr), as[n]? = some a → as'[n]? = some a) (tup : ∀ (a : Addr) (xs : List V), H a = some (.tup xs) → H' a = some (.tup xs)) : ∀ {d : D} {v : V}, Rep G as H d v → Rep G as' H' d v
  | .non, _, h => h
  | .bl _, _, h => h
  | .int _, _, h => h
  | .str _, _, h => h
  | .tup ds, _, h => by
    simp only [Rep] at h ⊢
    obtain ⟨a, vs, e, s, r⟩ := h
    exact ⟨a, vs, e, tup _ _ s, Reps.mono0 pre tup r⟩
  | .ob n, _, h => by
    simp only [Rep] at h ⊢
    obtain ⟨a, e, s⟩ := h
    exact ⟨a, e, pre _ _ s⟩
  | .fn i, _, h => h
  | .con i, _, h => h
theorem Reps.mono0 {G : Gx} {as H as' H'} (pre : ∀ (n : Nat) (a : Addr), as[n]? = some a → as'[n]? = some a) (tup : ∀ (a : Addr) (xs : List V), H a = some (.tup xs) → H' a = some (.tup xs)) : ∀ {ds : List D} {vs : List V}, Reps G as H ds vs → Reps G as' H' ds vs
  | [], _, h => h
  | d :: ds, _, h => by
    simp only [Reps] at h ⊢
    obtain ⟨v, r, e, h1, h2⟩ := h
    exact ⟨v, r, e, Rep.mono0 pre tup h1, Reps.mono0 pre tup h2⟩
end
theorem Rep.mono {G : Gx} {as H as' H'} (x : Ext as H as' H') {d : D} {v : V} (h : Rep G as H d v) : Rep G as' H' d v := h.mono0 x.pre x.tup
theorem Reps.mono {G : Gx} {as H as' H'} (x : Ext as H as' H') {ds : List D} {vs : List V} (h : Reps G as H ds vs) : Reps G as' H' ds vs := h.mono0 x.pre x.tup
theorem SL.mono {G : Gx} {σI as H as' H' σ} (x : Ext as H as' H') (s : SL G σI as H σ) : SL G σI as' H' σ :=
  ⟨s.len, fun i d h => let ⟨v, e, r⟩ := s.at_ i d h; ⟨v, e, r.mono x⟩, s.ex⟩
theorem RepKV.mono {κ : Type} {ky : D → Option κ} {G : Gx} {as H as' H'} (x : Ext as H as' H') {a : List (D × D)} {b : List (κ × V)} (h : RepKV ky G as H a b) : RepKV ky G as' H' a b :=
  Paired.mapP h fun _ _ z => ⟨z.1, z.2.mono x⟩
theorem RepF.mono {G : Gx} {as H as' H'} (x : Ext as H as' H') {a b} (h : RepF G as H a b) : RepF G as' H' a b :=
  Paired.mapP h fun _ _ z => ⟨z.1, z.2.mono x⟩
theorem XdR.ext {G : Gx} {as H as' H'} (x : Ext as H as' H') (h : XdR G as H) : XdR G as' H' := fun dd fs e => by
  obtain ⟨h1, vs, h2, h3⟩ := h dd fs e
  have n : dd ∉ as' := fun q => by
    have := x.fresh dd q h1
    rw [h2] at this; cases this
  exact ⟨n, vs, x.out dd _ h2 n, h3.mono x⟩
theorem ObR.mono0 {G : Gx} {as H as' H' a} (pre : ∀ (n : Nat) (a : Addr), as[n]? = some a → as'[n]? = some a) (tup : ∀ (a : Addr) (xs : List V), H a = some (.tup xs) → H' a = some (.tup xs)) (e : H' a = H a) : ∀ {mo : MO}, ObR G as H a mo → ObR G as' H' a mo
  | .lst xs, h => by
    obtain ⟨vs, h1, h2⟩ := h
    exact ⟨vs, e ▸ h1, h2.mono0 pre tup⟩
  | .dic lk false kvs, h => by
    obtain ⟨kv, h1, h2⟩ := h
    refine ⟨kv, ?_, Paired.mapP h2 fun _ _ z => ⟨z.1, z.2.mono0 pre tup⟩⟩
    unfold lkd at h1 ⊢; rw [e]; exact h1
  | .dic lk true kvs, h => by
    obtain ⟨kv, h1, h2⟩ := h
    refine ⟨kv, ?_, Paired.mapP h2 fun _ _ z => ⟨z.1, z.2.mono0 pre tup⟩⟩
    unfold lkd at h1 ⊢; rw [e]; exact h1
  | .ins c fs, h => by
    obtain ⟨C, dx, vs, h1, h2, h3⟩ := h
    exact ⟨C, dx, vs, h1, e ▸ h2, Paired.mapP h3 fun _ _ z => ⟨z.1, z.2.mono0 pre tup⟩⟩
  | .scr ns, h => by
    obtain ⟨o, h1⟩ := h
    exact ⟨o, e ▸ h1⟩
theorem ObR.mono {G : Gx} {as H as' H' a} (x : Ext as H as' H') (e : H' a = H a) {mo : MO} (h : ObR G as H a mo) : ObR G as' H' a mo := h.mono0 x.pre x.tup e
theorem Reps.length {G : Gx} {as H} : ∀ {ds : List D} {vs : List V}, Reps G as H ds vs → ds.length = vs.length
  | [], _, h => by simp only [Reps] at h; subst h; rfl
  | d :: ds, _, h => by
    simp only [Reps] at h
    obtain ⟨v, r, rfl, h1, h2⟩ := h
    simp [Reps.length h2]
theorem Reps.get {G : Gx} {as H} : ∀ {ds : List D} {vs : List V} {i : Nat} {d : D}, Reps G as H ds vs → ds[i]? = some d → ∃ v, vs[i]? = some v ∧ Rep G as H d v
  | [], _, _, _, _, e => by simp at e
  | d :: ds, _, 0, _, h, e => by
    simp only [Reps] at h
    obtain ⟨v, r, rfl, h1, h2⟩ := h
    simp at e; subst e
    exact ⟨v, rfl, h1⟩
  | d :: ds, _, i + 1, _, h, e => by
    simp only [Reps] at h
    obtain ⟨v, r, rfl, h1, h2⟩ := h
    simpa using Reps.get h2 (by simpa using e)
theorem Reps.append {G : Gx} {as H} : ∀ {ds es : List D} {vs ws : List V}, Reps G as H ds vs → Reps G as H es ws → Reps G as H (ds ++ es) (vs ++ ws)
  | [], _, _, _, h, k => by simp only [Reps] at h; subst h; simpa using k
  | d :: ds, _, _, _, h, k => by
    simp only [Reps] at h
    obtain ⟨v, r, rfl, h1, h2⟩ := h
    simp only [List.cons_append, Reps]
    exact ⟨v, _, rfl, h1, Reps.append h2 k⟩
theorem Reps.one {G : Gx} {as H d v} (h : Rep G as H d v) : Reps G as H [d] [v] := by
  simp only [Reps]; exact ⟨v, [], rfl, h, rfl⟩
theorem Reps.drop {G : Gx} {as H} : ∀ (n : Nat) {ds : List D} {vs : List V}, Reps G as H ds vs → Reps G as H (ds.drop n) (vs.drop n)
  | 0, _, _, h => h
  | n + 1, [], _, h => by simp only [Reps] at h; subst h; simp [Reps]
  | n + 1, d :: ds, _, h => by
    simp only [Reps] at h
    obtain ⟨v, r, rfl, h1, h2⟩ := h
    exact Reps.drop n h2
theorem Reps.take {G : Gx} {as H} : ∀ (n : Nat) {ds : List D} {vs : List V}, Reps G as H ds vs → Reps G as H (ds.take n) (vs.take n)
  | 0, _, _, h => by simp [Reps]
  | n + 1, [], _, h => by simp only [Reps] at h; subst h; simp [Reps]
  | n + 1, d :: ds, _, h => by
    simp only [Reps] at h
    obtain ⟨v, r, rfl, h1, h2⟩ := h
    simp only [List.take_succ_cons, Reps]
    exact ⟨v, _, rfl, h1, Reps.take n h2⟩
theorem Reps.set {G : Gx} {as H d v} (hd : Rep G as H d v) : ∀ (n : Nat) {ds : List D} {vs : List V}, Reps G as H ds vs → Reps G as H (ds.set n d) (vs.set n v)
  | _, [], _, h => by simp only [Reps] at h; subst h; simp [Reps]
  | 0, e :: ds, _, h => by
    simp only [Reps] at h
    obtain ⟨w, r, rfl, h1, h2⟩ := h
    simp only [List.set_cons_zero, Reps]
    exact ⟨v, _, rfl, hd, h2⟩
  | n + 1, e :: ds, _, h => by
    simp only [Reps] at h
    obtain ⟨w, r, rfl, h1, h2⟩ := h
    simp only [List.set_cons_succ, Reps]
    exact ⟨w, _, rfl, h1, Reps.set hd n h2⟩
theorem Reps.reverse {G : Gx} {as H} : ∀ {ds : List D} {vs : List V}, Reps G as H ds vs → Reps G as H ds.reverse vs.reverse
  | [], _, h => by simp only [Reps] at h; subst h; simp [Reps]
  | d :: ds, _, h => by
    simp only [Reps] at h
    obtain ⟨v, r, rfl, h1, h2⟩ := h
    rw [List.reverse_cons, List.reverse_cons]
    exact Reps.append (Reps.reverse h2) (Reps.one h1)
theorem Reps.ints {G : Gx} {as H} : ∀ {ns : List Int}, Reps G as H (ns.map D.int) (ns.map V.int)
  | [] => by simp [Reps]
  | n :: ns => by simp only [List.map_cons, Reps]; exact ⟨_, _, rfl, rfl, Reps.ints⟩
theorem Reps.nil_iff {G : Gx} {as H ds vs} (h : Reps G as H ds vs) : ds = [] ↔ vs = [] := by
  have := h.length
  constructor
  · rintro rfl; exact List.length_eq_zero_iff.mp (by simpa using this.symm)
  · rintro rfl; exact List.length_eq_zero_iff.mp (by simpa using this)

/-! ## extension by a new object, by a store -/
section
variable {G : Gx} {h : Hs} {as : List Addr} {H : Hp}
theorem tup_upd {H : Hp} {p : Addr} {o : HO} {a : Addr} {xs : List V} (hp : ∀ ys, H p ≠ some (.tup ys)) (h : H a = some (.tup xs)) : upd H p o a = some (.tup xs) := by
  rw [upd_ne (fun e => by subst e; exact hp _ h)]; exact h
theorem frz_upd {H : Hp} {p : Addr} {o : HO} {a : Addr} {ob : Obj} {u : HO} (hp : ∀ ob u, H p ≠ some (.frz ob u)) (h : H a = some (.frz ob u)) : upd H p o a = some (.frz ob u) := by
  rw [upd_ne (fun e => by subst e; exact hp _ _ h)]; exact h
theorem HI.get (I : HI G h as H) {n : Nat} {mo : MO} (e : h[n]? = some mo) : ∃ a, as[n]? = some a ∧ ObR G as H a mo := by
  have hl : n < as.length := by rw [I.len]; exact (List.getElem?_eq_some_iff.mp e).1
  exact ⟨as[n], by simp [hl], I.ob n mo _ e (by simp [hl])⟩
theorem lkd_some {lk H a o} (h : lkd lk H a o) : ∃ u, H a = some u := by
  unfold lkd at h
  split at h
  · obtain ⟨od, e⟩ := h; exact ⟨_, e⟩
  · exact ⟨_, h⟩
theorem ObR.some_ {a : Addr} : ∀ {mo : MO}, ObR G as H a mo → ∃ u, H a = some u
  | .lst _, ⟨_, e, _⟩ => ⟨_, e⟩
  | .dic _ false _, ⟨_, e, _⟩ => lkd_some e
  | .dic _ true _, ⟨_, e, _⟩ => lkd_some e
  | .ins _ _, ⟨_, _, _, _, e, _⟩ => ⟨_, e⟩
  | .scr _, ⟨_, e⟩ => ⟨_, e⟩
theorem HI.fresh (I : HI G h as H) {p : Addr} (hp : H p = none) : p ∉ as := fun hm => by
  obtain ⟨n, hn⟩ := List.getElem?_of_mem hm
  have hl : n < h.length := by rw [← I.len]; exact (List.getElem?_eq_some_iff.mp hn).1
  obtain ⟨u, e⟩ := (I.ob n h[n] p (by simp [hl]) hn).some_
  rw [hp] at e; cases e
theorem ext_new {p : Addr} {o : HO} (hp : H p = none) : Ext as H (as ++ [p]) (upd H p o) :=
  ⟨fun n a e => by rw [List.getElem?_append_left (List.getElem?_eq_some_iff.mp e).1]; exact e,
   fun a xs s => tup_upd (fun _ q => by rw [hp] at q; cases q) s, fun a ob u s => frz_upd (fun _ _ q => by rw [hp] at q; cases q) s,
   fun a ob e _ => by rw [upd_ne (ne_of_none e hp)]; exact e, fun a h hn => by
    rcases List.mem_append.mp h with h | h
    · exact absurd h hn
    · rw [List.mem_singleton.mp h]; exact hp⟩
/-- a new tuple, not an object of ours -/
theorem ext_tup {p : Addr} {o : HO} (hp : H p = none) : Ext as H as (upd H p o) :=
  ⟨fun n a e => e, fun a xs s => tup_upd (fun _ q => by rw [hp] at q; cases q) s, fun a ob u s => frz_upd (fun _ _ q => by rw [hp] at q; cases q) s,
   fun a ob e _ => by rw [upd_ne (ne_of_none e hp)]; exact e, fun a h hn => absurd h hn⟩
theorem HI.other (I : HI G h as H) {p : Addr} {o : HO} (hp : H p = none) : HI G h as (upd H p o) :=
  ⟨I.xd.ext (ext_tup hp), I.len, I.nd, fun n mo a e1 e2 => (I.ob n mo a e1 e2).mono (ext_tup hp) (upd_ne fun e => I.fresh hp (e ▸ List.mem_of_getElem? e2))⟩
/-- a new object of ours -/
theorem HI.new (I : HI G h as H) {p : Addr} {o : HO} {mo : MO} (hp : H p = none) (r : ObR G (as ++ [p]) (upd H p o) p mo) : HI G (h ++ [mo]) (as ++ [p]) (upd H p o) := by
  refine ⟨I.xd.ext (ext_new hp), by simp [I.len], ?_, fun n mo' a e1 e2 => ?_⟩
  · rw [List.nodup_append]
    refine ⟨I.nd, by simp, fun a ha b hb => ?_⟩
    simp at hb; subst hb
    exact fun e => I.fresh hp (e ▸ ha)
  · by_cases hn : n < h.length
    · rw [List.getElem?_append_left hn] at e1
      rw [List.getElem?_append_left (by rw [I.len]; exact hn)] at e2
      exact (I.ob n mo' a e1 e2).mono (ext_new hp) (upd_ne fun e => I.fresh hp (e ▸ List.mem_of_getElem? e2))
    · have hn2 : n = h.length := by
        have := (List.getElem?_eq_some_iff.mp e1).1
        simp at this; omega
      subst hn2
      rw [List.getElem?_append_right (by omega)] at e1
      rw [List.getElem?_append_right (by rw [I.len]; exact Nat.le_refl _)] at e2
      simp [I.len] at e1 e2
      subst e1 e2
      exact r
/-- a store into an object of ours -/
theorem ext_set {n : Nat} {p : Addr} {o u : HO} (hn : as[n]? = some p) (hp : H p = some u) (ht : ∀ ys, u ≠ .tup ys) (hf : ∀ ob w, u ≠ .frz ob w) : Ext as H as (upd H p o) :=
  ⟨fun _ _ e => e, fun a xs s => tup_upd (fun ys q => by rw [hp] at q; exact ht ys (Option.some.inj q)) s, fun a ob w s => frz_upd (fun ob w q => by rw [hp] at q; exact hf ob w (Option.some.inj q)) s,
   fun a ob e ha => by rw [upd_ne (fun q => ha (by rw [q]; exact List.mem_of_getElem? hn))]; exact e, fun a h hn => absurd h hn⟩
theorem HI.set (I : HI G h as H) {n : Nat} {p : Addr} {o u : HO} {mo : MO} (hn : as[n]? = some p) (hp : H p = some u) (ht : ∀ ys, u ≠ .tup ys) (hf : ∀ ob w, u ≠ .frz ob w) (r : ObR G as (upd H p o) p mo) : HI G (h.set n mo) as (upd H p o) := by
  refine ⟨I.xd.ext (ext_set hn hp ht hf), by simp [I.len], I.nd, fun m mo' a e1 e2 => ?_⟩
  by_cases hm : m = n
  · subst hm
    rw [hn] at e2; cases e2
    have hl : m < h.length := by rw [← I.len]; exact (List.getElem?_eq_some_iff.mp hn).1
    rw [List.getElem?_set_self hl] at e1; cases e1
    exact r
  · rw [List.getElem?_set_ne (Ne.symm hm)] at e1
    refine (I.ob m mo' a e1 e2).mono (ext_set hn hp ht hf) (upd_ne fun e => hm ?_)
    subst e
    exact (List.getElem?_inj (List.getElem?_eq_some_iff.mp e2).1 I.nd).mp (e2.trans hn.symm)
end

/-! ## == -/
theorem st_beq (s t : List Char) : (st s == st t) = (s == t) := by
  unfold st
  rw [Bool.eq_iff_iff, beq_iff_eq, beq_iff_eq]
  constructor
  · intro e
    have e1 := congrArg (fun z => z.cps.toList) e
    exact (List.map_inj_right (fun a b h => Char.toNat_inj.mp h)).mp e1
  · intro e; rw [e]
mutual
theorem eqv_toPy : ∀ (x y : D), pur x = true → pur y = true → PyData.eqv (toPy x) (toPy y) = eqv x y
  | x, y, hx, hy => by
    cases x <;> cases y <;> simp only [pur] at hx hy <;> try (simp only [toPy, PyData.eqv, eqv] <;> done)
    all_goals first
      | (cases hx; done)
      | (cases hy; done)
      | (simp only [toPy, PyData.eqv, eqv]
         first
          | exact eqvs_toPy _ _ hx hy
          | exact st_beq _ _)
theorem eqvs_toPy : ∀ (xs ys : List D), purs xs = true → purs ys = true → PyData.eqvAll (toPys xs) (toPys ys) = eqvs xs ys
  | [], [], _, _ => by simp only [toPys, PyData.eqvAll, eqvs]
  | [], _ :: _, _, _ => by simp only [toPys, PyData.eqvAll, eqvs]
  | _ :: _, [], _, _ => by simp only [toPys, PyData.eqvAll, eqvs]
  | x :: xs, y :: ys, hx, hy => by
    simp only [purs, Bool.and_eq_true] at hx hy
    simp only [toPys, PyData.eqvAll, eqvs, eqv_toPy x y hx.1 hy.1, eqvs_toPy xs ys hx.2 hy.2]
end
end Rf
end

section
namespace Rf
open PySem PySem.Spec PyProof.Rows L2

inductive Fl where | nx (σ : Sg) | rt (d : D) | bk (σ : Sg) | ct (σ : Sg)
inductive RS where | ok (f : Fl) (h : Hs) | exc (c : Nat) (fs : List (String × D)) (σ : Sg) (h : Hs) | no
def RS.then (r : RS) (f : Sg → Hs → RS) : RS := match r with
  | .ok (.nx σ) h => f σ h
  | r => r
@[simp] theorem RS.then_nx (σ h f) : (RS.ok (.nx σ) h).then f = f σ h := rfl
@[simp] theorem RS.then_rt (d h f) : (RS.ok (.rt d) h).then f = .ok (.rt d) h := rfl
@[simp] theorem RS.then_bk (d h f) : (RS.ok (.bk d) h).then f = .ok (.bk d) h := rfl
@[simp] theorem RS.then_ct (d h f) : (RS.ok (.ct d) h).then f = .ok (.ct d) h := rfl
@[simp] theorem RS.then_exc (c fs σ h f) : (RS.exc c fs σ h).then f = .exc c fs σ h := rfl
@[simp] theorem RS.then_no (f) : RS.no.then f = .no := rfl
/-- an expression's outcome within a statement -/
def R.stm {α : Type} (r : R α) (σ : Sg) (f : α → Hs → RS) : RS := match r with
  | .ok a h => f a h
  | .exc c fs h => .exc c fs σ h
  | .no => .no
@[simp] theorem R.stm_ok {α : Type} (a : α) (h : Hs) (σ) (f : α → Hs → RS) : (R.ok a h).stm σ f = f a h := rfl
@[simp] theorem R.stm_exc {α : Type} (c fs h σ) (f : α → Hs → RS) : (R.exc c fs h : R α).stm σ f = .exc c fs σ h := rfl
@[simp] theorem R.stm_no {α : Type} (σ) (f : α → Hs → RS) : (R.no : R α).stm σ f = .no := rfl

def ofO {α : Type} (o : Option α) (h : Hs) : R α := match o with | some a => .ok a h | none => .no
@[simp] theorem ofO_some {α : Type} (a : α) (h : Hs) : ofO (some a) h = .ok a h := rfl
@[simp] theorem ofO_none {α : Type} (h : Hs) : ofO (none : Option α) h = .no := rfl
/-- no exception leaves a comprehension -/
def R.shut {α : Type} (r : R α) : R α := match r with | .exc _ _ _ => .no | r => r
@[simp] theorem R.shut_ok {α : Type} (a : α) (h : Hs) : (R.ok a h).shut = .ok a h := rfl
@[simp] theorem R.shut_exc {α : Type} (c fs h) : (R.exc c fs h : R α).shut = .no := rfl
@[simp] theorem R.shut_no {α : Type} : (R.no : R α).shut = .no := rfl

def truthR (x : D) (h : Hs) : R Bool := ofO (truth x h) h

/-! ## subscripts, slices, methods, built-ins -/
def kvGet (kvs : List (D × D)) (k : D) : Option D := match kvs with
  | [] => none
  | (a, b) :: r => if eqv a k then some b else kvGet r k
def kvPut (kvs : List (D × D)) (k v : D) : List (D × D) :=
  if (kvs.any fun p => eqv p.1 k) = true then kvs.map (fun p => if eqv p.1 k = true then (p.1, v) else p) else kvs ++ [(k, v)]
def kvDel (kvs : List (D × D)) (k : D) : List (D × D) := kvs.filter fun p => !eqv p.1 k
/-- may it be a key of such a dict -/
def isK : D → Bool
  | .int _ => true
  | .str _ => true
  | _ => false
def isT : D → Bool
  | .tup ds => ds.all isK
  | _ => false
def okK (t : Bool) (kvs : List (D × D)) (k : D) : Bool := if t then isT k && kvs.all (fun p => isT p.1) else isK k && kvs.all (fun p => isK p.1)
def ixD (cs : List (List D)) (x y : D) (h : Hs) : R D := match x, y with
  | .con g, .int i => match cs[g]? with
    | some ys => ofO (atI ys i) h
    | none => .no
  | .tup xs, .int i => ofO (atI xs i) h
  | .str s, .int i => if s.length ≤ sizeLine then ofO ((atI s i).map fun c => .str [c]) h else .no
  | .ob n, k => match h[n]?, k with
    | some (.lst xs), .int i => ofO (atI xs i) h
    | some (.scr xs), .int i => ofO ((atI xs i).map D.int) h
    | some (.dic _ t kvs), k => if okK t kvs k then ofO (kvGet kvs k) h else .no
    | _, _ => .no
  | _, _ => .no
def cutD {α : Type} (xs : List α) (lo hi : Option Int) : List α := (xs.drop (HT.sIx xs.length 0 lo)).take (HT.sIx xs.length xs.length hi - HT.sIx xs.length 0 lo)
def slD (x : D) (lo hi : Option Int) (h : Hs) : R D := match x with
  | .tup xs => .ok (.tup (cutD xs lo hi)) h
  | .str s => if s.length ≤ sizeLine then .ok (.str (cutD s lo hi)) h else .no
  | .ob n => match h[n]? with
    | some (.lst xs) => .ok (.ob h.length) (h ++ [.lst (cutD xs lo hi)])
    | some (.scr xs) => .ok (.ob h.length) (h ++ [.lst ((cutD xs lo hi).map D.int)])
    | _ => .no
  | _ => .no
def optI : List D → Option (Option Int)
  | [] => some none
  | [.int i] => some (some i)
  | _ => none
/-- o[i] = v -/
def putD (o i v : D) (h : Hs) : Option Hs := match o with
  | .ob n => match h[n]?, i with
    | some (.lst xs), .int k => (ixN xs.length k).map fun j => h.set n (.lst (xs.set j v))
    | some (.dic false t kvs), k => if okK t kvs k && decide (kvs.length < sizeLine) then some (h.set n (.dic false t (kvPut kvs k v))) else none
    | _, _ => none
  | _ => none
def hasF (cl : List CI) (c : Nat) (f : String) : Bool := match cl[c]? with | some ci => ci.flds.contains f | none => false
def fldD (cl : List CI) (x : D) (f : String) (h : Hs) : R D := match x with
  | .ob n => match h[n]? with
    | some (.ins c fs) => if hasF cl c f then ofO (fs.lookup f) h else .no
    | _ => .no
  | _ => .no
def fput (f : String) (v : D) : List (String × D) → List (String × D)
  | [] => [(f, v)]
  | (g, x) :: r => if g = f then (g, v) :: r else (g, x) :: fput f v r
def fsetD (cl : List CI) (x : D) (f : String) (v : D) (h : Hs) : Option Hs := match x with
  | .ob n => match h[n]? with
    | some (.ins c fs) => if hasF cl c f && decide (fs.length < 900) then some (h.set n (.ins c (fput f v fs))) else none
    | _ => none
  | _ => none
/-- x op= y -/
def augD (o : Op) (x y : D) (h : Hs) : R D := match o, x, y with
  | .add, .int i, .int j => .ok (.int (i + j)) h
  | .sub, .int i, .int j => .ok (.int (i - j)) h
  | .add, .str s, .str t => if s.length + t.length ≤ sizeLine then .ok (.str (s ++ t)) h else .no
  | _, _, _ => .no
/-- a built-in value's method -/
def mtOf (x : D) (m : String) (h : Hs) : Option Mt := match x with
  | .ob n => match h[n]? with
    | some (.lst _) => if m = "append" then some .append else if m = "reverse" then some .reverse else if m = "extend" then some .extend else if m = "pop" then some .pop else if m = "insert" then some .insert else none
    | some (.dic false false _) => if m = "update" then some .update else none
    | _ => none
  | .str _ => if m = "isalnum" then some .isalnum else if m = "startswith" then some .startswith else if m = "find" then some .find else if m = "lower" then some .lower else none
  | _ => none
/-- d.update(e) -/
def kvMrg (ks ls : List (D × D)) : List (D × D) := ls.foldl (fun acc p => kvPut acc p.1 p.2) ks
def methD (k : Mt) (x : D) (xs : List D) (h : Hs) : R D := match k with
  | .append => match x, xs with
    | .ob n, [y] => match h[n]? with
      | some (.lst s) => if s.length < sizeLine then .ok .non (h.set n (.lst (s ++ [y]))) else .no
      | _ => .no
    | _, _ => .no
  | .insert => match x, xs with
    | .ob n, [.int i, y] => match h[n]? with
      | some (.lst s) => if s.length < sizeLine ∧ 0 ≤ i ∧ i < 2 ^ 62 then .ok .non (h.set n (.lst (s.take i.toNat ++ [y] ++ s.drop i.toNat))) else .no
      | _ => .no
    | _, _ => .no
  | .update => match x, xs with
    | .ob n, [.ob m] => match h[n]?, h[m]? with
      | some (.dic false false ks), some (.dic _ false ls) => if n ≠ m ∧ ks.length + ls.length ≤ sizeLine then .ok .non (h.set n (.dic false false (kvMrg ks ls))) else .no
      | _, _ => .no
    | _, _ => .no
  | .reverse => match x, xs with
    | .ob n, [] => match h[n]? with
      | some (.lst s) => .ok .non (h.set n (.lst s.reverse))
      | _ => .no
    | _, _ => .no
  | .extend => match x, xs with
    | .ob n, [.ob m] => match h[n]?, h[m]? with
      | some (.lst s), some (.lst t) => if s.length + t.length ≤ sizeLine then .ok .non (h.set n (.lst (s ++ t))) else .no
      | _, _ => .no
    | _, _ => .no
  | .pop => match x, xs with
    | .ob n, [] => match h[n]? with
      | some (.lst s) => match s[s.length - 1]? with
        | some y => .ok y (h.set n (.lst s.dropLast))
        | none => .no
      | _ => .no
    | _, _ => .no
  | .isalnum => match x, xs with
    | .str s, [] => .ok (.bl (Txt.isalnum (st s))) h
    | _, _ => .no
  | .startswith => match x, xs with
    | .str s, [.str p, .int i] => .ok (.bl (Txt.startswith3 (st s) (st p) i)) h
    | _, _ => .no
  | .find => match x, xs with
    | .str s, [.str p, .int i] => .ok (.int (Txt.find3 (st s) (st p) i)) h
    | _, _ => .no
  | .lower => match x, xs with
    | .str s, [] => if s.length ≤ 1000000 ∧ Txt.lower (st s) = st (s.map Char.toLower) then .ok (.str (s.map Char.toLower)) h else .no
    | _, _ => .no
  | _ => .no
def isIns (x : D) (h : Hs) : Option (Nat × List (String × D)) := match x with
  | .ob n => match h[n]? with
    | some (.ins c fs) => some (c, fs)
    | _ => none
  | _ => none
/-- a list, a dict: is it of the class -/
def isObB (h : Hs) (n : Nat) (l d : Bool) : R D := match h[n]? with
  | some (.lst _) => .ok (.bl l) h
  | some (.dic false _ _) => .ok (.bl d) h
  | _ => .no
def bltD (b : Bf) (xs : List D) (h : Hs) : R D := match b, xs with
  | .len, [.tup s] => .ok (.int s.length) h
  | .len, [.str s] => if s.length ≤ sizeLine then .ok (.int s.length) h else .no
  | .len, [.ob n] => match h[n]? with
    | some (.lst s) => .ok (.int s.length) h
    | some (.scr s) => .ok (.int s.length) h
    | some (.dic _ false s) => .ok (.int s.length) h
    | _ => .no
  | .abs, [.int i] => .ok (.int (if i < 0 then -i else i)) h
  | .int, [.int i] => .ok (.int i) h
  | .int, [.bl b] => .ok (.int (if b then 1 else 0)) h
  | .int, [.str s] => match PySem.intText? (st s) with
    | some n => if s.length ≤ 640 then .ok (.int n) h else .no
    | none => .no
  | .str, [.int i] => if i.natAbs.log2 < 1920 then .ok (.str (toString i).toList) h else .no
  | .str, [.str s] => .ok (.str s) h
  | .min2, [.int i, .int j] => .ok (.int (if j < i then j else i)) h
  | .max2, [.int i, .int j] => .ok (.int (if j > i then j else i)) h
  | .tuple, [.tup s] => .ok (.tup s) h
  | .tuple, [.ob n] => match h[n]? with
    | some (.lst s) => .ok (.tup s) h
    | _ => .no
  | .list, [.tup s] => .ok (.ob h.length) (h ++ [.lst s])
  | .list, [.ob n] => match h[n]? with
    | some (.lst s) => .ok (.ob h.length) (h ++ [.lst s])
    | some (.scr s) => .ok (.ob h.length) (h ++ [.lst (s.map D.int)])
    | some (.dic false false kvs) => .ok (.ob h.length) (h ++ [.lst (kvs.map (·.1))])
    | _ => .no
  | .dict, [.ob n] => match h[n]? with
    | some (.dic _ false kvs) => .ok (.ob h.length) (h ++ [.dic false false kvs])
    | _ => .no
  | .isTup, [.tup _] => .ok (.bl true) h
  | .isTup, [.non] => .ok (.bl false) h
  | .isTup, [.bl _] => .ok (.bl false) h
  | .isTup, [.int _] => .ok (.bl false) h
  | .isTup, [.str _] => .ok (.bl false) h
  | .isStr, [.tup _] => .ok (.bl false) h
  | .isStr, [.non] => .ok (.bl false) h
  | .isStr, [.bl _] => .ok (.bl false) h
  | .isStr, [.int _] => .ok (.bl false) h
  | .isStr, [.str _] => .ok (.bl true) h
  | .isBool, [.tup _] => .ok (.bl false) h
  | .isBool, [.non] => .ok (.bl false) h
  | .isBool, [.bl _] => .ok (.bl true) h
  | .isBool, [.int _] => .ok (.bl false) h
  | .isBool, [.str _] => .ok (.bl false) h
  | .isTup, [.ob n] => isObB h n false false
  | .isStr, [.ob n] => isObB h n false false
  | .isBool, [.ob n] => isObB h n false false
  | .isList, [.ob n] => isObB h n true false
  | .isList, [.tup _] => .ok (.bl false) h
  | .isList, [.non] => .ok (.bl false) h
  | .isList, [.bl _] => .ok (.bl false) h
  | .isList, [.int _] => .ok (.bl false) h
  | .isList, [.str _] => .ok (.bl false) h
  | .isInt, [.tup _] => .ok (.bl false) h
  | .isInt, [.non] => .ok (.bl false) h
  | .isInt, [.bl _] => .ok (.bl true) h
  | .isInt, [.int _] => .ok (.bl true) h
  | .isInt, [.str _] => .ok (.bl false) h
  | .repr, [.tup xs] => if rpOk (.tup xs) && decide (dep (.tup xs) ≤ 64) && decide ((rp (.tup xs)).length ≤ sizeLine) then .ok (.str (rp (.tup xs))) h else .no
  | _, _ => .no
/-- .. where the script may be one of the module's own objects -/
def bltC (W : Wd) (b : Bf) (xs : List D) (h : Hs) : R D := match b with
  | .list => match xs with
    | [.con g] => if g = W.cons.length then .ok (.ob h.length) (h ++ [.lst (W.scr.map D.int)]) else match W.cons[g]? with
      | some ys => .ok (.ob h.length) (h ++ [.lst ys])
      | none => .no
    | xs => bltD .list xs h
  | b => bltD b xs h
/-- in, not in -/
def inD (cs : List (List D)) (x y : D) (h : Hs) : Option Bool := match y with
  | .con g => match cs[g]? with
    | some ys => if flat x && ys.all flat then some (inL x ys) else none
    | none => none
  | .tup ys => if flat x && ys.all flat then some (inL x ys) else none
  | .ob n => match h[n]? with
    | some (.lst ys) => if flat x && ys.all flat then some (inL x ys) else none
    | some (.dic _ t kvs) => if okK t kvs x then some (kvGet kvs x).isSome else none
    | _ => none
  | .str s => match x with
    | .str [c] => some (s.contains c)
    | _ => none
  | _ => none
/-- == of two dicts -/
def dicB (x y : D) (h : Hs) : Option (List (D × D) × List (D × D)) := match x, y with
  | .ob n, .ob m => match h[n]?, h[m]? with
    | some (.dic _ false ks), some (.dic _ false ls) => some (ks, ls)
    | _, _ => none
  | _, _ => none
def hitKV (ls : List (D × D)) (p : D × D) : Bool := match kvGet ls p.1 with | some w => eqv p.2 w | none => false
def eqKV (ks ls : List (D × D)) : Option Bool := if (ks.all fun p => flat p.2) && ls.all (fun p => flat p.2) then some (ks.length == ls.length && ks.all (hitKV ls)) else none
def cmpA (cs : List (List D)) (o : Cp) (x y : D) (h : Hs) : R D := match o with
  | .eq => match dicB x y h with
    | some q => (ofO (eqKV q.1 q.2) h).bind fun b h => .ok (.bl b) h
    | none => cmpD .eq x y h
  | .ne => match dicB x y h with
    | some q => (ofO (eqKV q.1 q.2) h).bind fun b h => .ok (.bl (!b)) h
    | none => cmpD .ne x y h
  | .in_ => (ofO (inD cs x y h) h).bind fun b h => .ok (.bl b) h
  | .nin => (ofO (inD cs x y h) h).bind fun b h => .ok (.bl (!b)) h
  | .is_ => match y with | .non => .ok (.bl (match x with | .non => true | _ => false)) h | .bl b => (match x with | .bl a => .ok (.bl (decide (a = b))) h | _ => .no) | _ => .no
  | .isn => match y with | .non => .ok (.bl (match x with | .non => false | _ => true)) h | .bl b => (match x with | .bl a => .ok (.bl (!decide (a = b))) h | _ => .no) | _ => .no
  | o => cmpD o x y h

/-! ## what is walked -/
/-- what a loop leans on: an object that stays; a dict that is locked -/
inductive Gd where | none | keep (n : Nat) (mo : MO) | lock (n : Nat) (t : Bool) (kvs : List (D × D))
def same (g : Gd) (h : Hs) : Prop := match g with
  | .none => True
  | .keep n mo => h[n]? = some mo
  | .lock n t kvs => h[n]? = some (.dic true t kvs)
def endG (g : Gd) (h : Hs) : Hs := match g with
  | .lock n t kvs => h.set n (.dic false t kvs)
  | _ => h
/-- the items, what it leans on, the heap -/
def itemsI (cs : List (List D)) (k : Ik) (xs : List D) (h : Hs) : Option (List D × Gd × Hs) := match k, xs with
  | .seq, [.tup s] => some (s, .none, h)
  | .seq, [.con g] => (cs[g]?).map fun ys => (ys, .none, h)
  | .seq, [.ob n] => match h[n]? with
    | some (.lst s) => some (s, .keep n (.lst s), h)
    | some (.scr s) => some (s.map D.int, .keep n (.scr s), h)
    | some (.dic true false kvs) => some (kvs.map (·.1), .keep n (.dic true false kvs), h)
    | some (.dic false false kvs) => some (kvs.map (·.1), .lock n false kvs, h.set n (.dic true false kvs))
    | _ => none
  | .rng1, [.int j] => if -(2 ^ 62) ≤ j ∧ j < 2 ^ 62 then some ((List.range j.toNat).map fun (i : Nat) => D.int (0 + (i : Int)), .none, h) else none
  | .rng2, [.int i, .int j] => if -(2 ^ 62) ≤ i ∧ i < 2 ^ 62 ∧ -(2 ^ 62) ≤ j ∧ j < 2 ^ 62 then some ((List.range (j - i).toNat).map fun (k : Nat) => D.int (i + (k : Int)), .none, h) else none
  | _, _ => none
def bindT (t : Tg) (d : D) (σ : Sg) : Option Sg := match t with
  | .nm i => some (σ.set i (some d))
  | .tp is => match d with
    | .tup ds => if ds.length = is.length then some ((is.zip ds).foldl (fun σ p => σ.set p.1 (some p.2)) σ) else none
    | _ => none
def wipeI (σ : Sg) : List Nat → Sg
  | [] => σ
  | v :: vs => (wipeI σ vs).set v none

open Classical in
noncomputable def lcI (g : Gd) (turn : D → Hs → R (Option D)) : List D → List D → Hs → R (List D)
  | [], acc, h => if same g h then .ok acc (endG g h) else .no
  | d :: ds, acc, h => if same g h then (turn d h).bind fun o h => match o with
    | some x => if acc.length < sizeLine then lcI g turn ds (acc ++ [x]) h else .no
    | none => lcI g turn ds acc h
    else .no
open Classical in
noncomputable def forI (g : Gd) (turn : D → Sg → Hs → RS) : List D → Sg → Hs → RS
  | [], σ, h => if same g h then .ok (.nx σ) (endG g h) else .no
  | d :: ds, σ, h => if same g h then match turn d σ h with
    | .ok (.nx σ) h => forI g turn ds σ h
    | .ok (.ct σ) h => forI g turn ds σ h
    | .ok (.bk σ) h => if same g h then .ok (.nx σ) (endG g h) else .no
    | .ok (.rt d) h => if same g h then .ok (.rt d) (endG g h) else .no
    | r => r
    else .no
def whileI (c : Sg → Hs → R Bool) (b : Sg → Hs → RS) : Nat → Sg → Hs → RS
  | 0, _, _ => .no
  | n + 1, σ, h => (c σ h).stm σ fun t h => if t then match b σ h with
    | .ok (.nx σ) h => whileI c b n σ h
    | .ok (.ct σ) h => whileI c b n σ h
    | .ok (.bk σ) h => .ok (.nx σ) h
    | r => r
    else .ok (.nx σ) h

/-- a comprehension's test -/
def cdB (ts : List D) (h : Hs) : R Bool := match ts with
  | [] => .ok true h
  | [t] => truthR t h
  | _ => .no
/-- a turn of a comprehension -/
def lcTurn (bt : D → Option Sg) (cd : Sg → Hs → R Bool) (el : Sg → Hs → R D) (d : D) (h : Hs) : R (Option D) :=
  ((ofO (bt d) h).bind fun σ1 h => (cd σ1 h).bind fun b h => if b then (el σ1 h).bind fun x h => .ok (some x) h else .ok none h).shut
def lcEnd (acc : List D) (h : Hs) : R D := .ok (.ob h.length) (h ++ [.lst acc])
abbrev CF := Nat → List D → Hs → R D
abbrev CXI := Option (Nat × List (String × D))
section
variable (W : Wd) (cf : CF) (cx : CXI)
mutual
noncomputable def evalE : E → Sg → Hs → R D
  | .var i, σ, h => match σ[i]? with | some (some d) => .ok d h | _ => .no
  | .cst d, _, h => .ok d h
  | .glb g, _, h => .ok (.con g) h
  | .gst _ s, _, h => .ok (.str s) h
  | .gni _ i, _, h => .ok (.int i) h
  | .fnv f, _, h => .ok (.fn f) h
  | .bin o a b, σ, h => (evalE a σ h).bind fun x h => (evalE b σ h).bind fun y h => opD o x y h
  | .neg a, σ, h => (evalE a σ h).bind fun x h => match x with | .int i => .ok (.int (-i)) h | _ => .no
  | .cmp o a b, σ, h => (evalE a σ h).bind fun x h => (evalE b σ h).bind fun y h => cmpA W.cons o x y h
  | .chn o o' a b c, σ, h => (evalE a σ h).bind fun x h => (evalE b σ h).bind fun y h => (cmpA W.cons o x y h).bind fun z h => match z with
    | .bl true => (evalE c σ h).bind fun w h => cmpA W.cons o' y w h
    | .bl false => .ok (.bl false) h
    | _ => .no
  | .and a b, σ, h => (evalE a σ h).bind fun x h => (truthR x h).bind fun t h => if t then evalE b σ h else .ok x h
  | .or a b, σ, h => (evalE a σ h).bind fun x h => (truthR x h).bind fun t h => if t then .ok x h else evalE b σ h
  | .not a, σ, h => (evalE a σ h).bind fun x h => (truthR x h).bind fun t h => .ok (.bl (!t)) h
  | .ife c a b, σ, h => (evalE c σ h).bind fun x h => (truthR x h).bind fun t h => if t then evalE a σ h else evalE b σ h
  | .tup es, σ, h => (evalEs es σ h).bind fun xs h => if xs.length ≤ sizeLine then .ok (.tup xs) h else .no
  | .lst es, σ, h => (evalEs es σ h).bind fun xs h => if xs.length ≤ sizeLine then .ok (.ob h.length) (h ++ [.lst xs]) else .no
  | .dic t ks vs, σ, h => match ks, vs with
    | [], [] => .ok (.ob h.length) (h ++ [.dic false t []])
    | _, _ => .no
  | .ix a i, σ, h => (evalE a σ h).bind fun x h => (evalE i σ h).bind fun y h => ixD W.cons x y h
  | .slc a lo hi, σ, h => (evalE a σ h).bind fun x h => (evalEs lo σ h).bind fun l h => (ofO (optI l) h).bind fun l h => (evalEs hi σ h).bind fun u h => (ofO (optI u) h).bind fun u h => slD x l u h
  | .back a, σ, h => (evalE a σ h).bind fun x h => match x with
    | .ob n => match h[n]? with
      | some (.lst xs) => .ok (.ob h.length) (h ++ [.lst xs.reverse])
      | _ => .no
    | _ => .no
  | .fld a f, σ, h => (evalE a σ h).bind fun x h => fldD W.cls x f h
  | .cal f es, σ, h => (evalEs es σ h).bind fun xs h => cf f xs h
  | .cav i es, σ, h => match σ[i]? with
    | some (some (.fn f)) => (evalEs es σ h).bind fun xs h => cf f xs h
    | _ => .no
  | .new c es, σ, h => (evalEs es σ h).bind fun xs h => match (W.cls[c]?).bind (·.ini) with
    | some f => (cf f (.ob h.length :: xs) (h ++ [.ins c []])).bind fun r h' => match r with | .non => .ok (.ob h.length) h' | _ => .no
    | none => .no
  | .met o m es, σ, h => (evalE o σ h).bind fun x h => match isIns x h with
    | some (c, fs) => match (W.cls[c]?).bind fun ci => ci.meths.lookup m with
      | some f => if (fs.lookup m).isNone then (evalEs es σ h).bind fun xs h => cf f (x :: xs) h else .no
      | none => .no
    | none => match mtOf x m h with
      | some k => (evalEs es σ h).bind fun xs h => methD k x xs h
      | none => .no
  | .blt b es, σ, h => (evalEs es σ h).bind fun xs h => bltC W b xs h
  | .lc own tg k its cd el, σ, h => (evalEs its σ h).bind fun xs h => (ofO (itemsI W.cons k xs h) h).bind fun ig h =>
    (lcI ig.2.1 (lcTurn (fun d => bindT tg d (wipeI σ own)) (fun σ1 h => (evalEs cd σ1 h).bind cdB) (fun σ1 h => evalE el σ1 h)) ig.1 [] ig.2.2).bind lcEnd
  | .exf i f, σ, h => match cx, σ[i]? with
    | some (c, fs), some none => if f ∈ W.exf c then ofO (fs.lookup f) h else .no
    | _, _ => .no
noncomputable def evalEs : List E → Sg → Hs → R (List D)
  | [], _, h => .ok [] h
  | e :: es, σ, h => (evalE e σ h).bind fun x h => (evalEs es σ h).bind fun xs h => .ok (x :: xs) h
end
end

/-- the name of a clause -/
def offI (o : Option Nat) (σ : Sg) : Sg := match o with | some i => σ.set i none | none => σ
def RS.offs (o : Option Nat) (r : RS) : RS := match r with
  | .ok (.nx σ) h => .ok (.nx (offI o σ)) h
  | .ok (.bk σ) h => .ok (.bk (offI o σ)) h
  | .ok (.ct σ) h => .ok (.ct (offI o σ)) h
  | .ok (.rt d) h => .ok (.rt d) h
  | _ => .no
@[simp] theorem RS.offs_nx (o σ h) : (RS.ok (.nx σ) h).offs o = .ok (.nx (offI o σ)) h := rfl
@[simp] theorem RS.offs_rt (o d h) : (RS.ok (.rt d) h).offs o = .ok (.rt d) h := rfl
section
variable (W : Wd) (L : Nat) (cf : CF)
def isSomeB {α : Type} (o : Option α) : Bool := o.isSome
mutual
noncomputable def evalS (cx : CXI) : S → Sg → Hs → RS
  | .set i e, σ, h => (evalE W cf cx e σ h).stm σ fun x h => .ok (.nx (σ.set i (some x))) h
  | .setT is e, σ, h => (evalE W cf cx e σ h).stm σ fun x h => match bindT (.tp is) x σ with | some σ => .ok (.nx σ) h | none => .no
  | .put o i e, σ, h => (evalE W cf cx e σ h).stm σ fun v h => (evalE W cf cx o σ h).stm σ fun x h => (evalE W cf cx i σ h).stm σ fun y h => match putD x y v h with
    | some h => .ok (.nx σ) h
    | none => .no
  | .fset o f e, σ, h => (evalE W cf cx e σ h).stm σ fun v h => (evalE W cf cx o σ h).stm σ fun x h => match fsetD W.cls x f v h with
    | some h => .ok (.nx σ) h
    | none => .no
  | .aug i o e, σ, h => match σ[i]? with
    | some (some x) => (evalE W cf cx e σ h).stm σ fun y h => (augD o x y h).stm σ fun z h => .ok (.nx (σ.set i (some z))) h
    | _ => .no
  | .faug a f o e, σ, h => (evalE W cf cx a σ h).stm σ fun x h => match isIns x h with
    | some (c, fs) => if hasF W.cls c f then match fs.lookup f with
      | some y => (evalE W cf cx e σ h).stm σ fun z h => (augD o y z h).stm σ fun w h => match isIns x h, fsetD W.cls x f w h with
        | some (c', _), some h => if c' = c then .ok (.nx σ) h else .no
        | _, _ => .no
      | none => .no
      else .no
    | none => .no
  | .expr e, σ, h => (evalE W cf cx e σ h).stm σ fun _ h => .ok (.nx σ) h
  | .ret e, σ, h => (evalE W cf cx e σ h).stm σ fun x h => .ok (.rt x) h
  | .retN, _, h => .ok (.rt .non) h
  | .ife c a b, σ, h => (evalE W cf cx c σ h).stm σ fun x h => (truthR x h).stm σ fun t h => if t then evalB cx a σ h else evalB cx b σ h
  | .whl c b, σ, h => whileI (fun σ h => (evalE W cf cx c σ h).bind fun x h => truthR x h) (evalB cx b) L σ h
  | .for_ tg k its b, σ, h => (evalEs W cf cx its σ h).stm σ fun xs h => (ofO (itemsI W.cons k xs h) h).stm σ fun ig h =>
    forI ig.2.1 (fun d σ h => match bindT tg d σ with | some σ => evalB cx b σ h | none => .no) ig.1 σ ig.2.2
  | .raise c es, σ, h => (evalEs W cf cx es σ h).stm σ fun xs h => if 0 < (W.exf c).length ∧ xs.length = (W.exf c).length ∧ xs.length ≤ 900 then .exc c ((W.exf c).zip xs).reverse σ h else .no
  | .try_ b hs, σ, h => match evalB cx b σ h with
    | .exc c fs σ1 h1 => if 0 < (W.exf c).length then evalH c fs hs σ1 h1 else .no
    | r => r
  | .brk, σ, h => .ok (.bk σ) h
  | .cnt, σ, h => .ok (.ct σ) h
  | .pass, σ, h => .ok (.nx σ) h
  | .stuck, _, _ => .no
noncomputable def evalB (cx : CXI) : List S → Sg → Hs → RS
  | [], σ, h => .ok (.nx σ) h
  | s :: r, σ, h => (evalS cx s σ h).then fun σ h => evalB cx r σ h
/-- the clauses, one after the other -/
noncomputable def evalH (c : Nat) (fs : List (String × D)) : List (Nat × Option Nat × List S) → Sg → Hs → RS
  | [], σ, h => .exc c fs σ h
  | (k, o, b) :: r, σ, h => if W.isa c k then (evalB (some (c, fs)) b (offI o σ) h).offs o else evalH c fs r σ h
end
end
def RS.fin (r : RS) : R D := match r with
  | .ok (.nx _) h => .ok .non h
  | .ok (.rt d) h => .ok d h
  | .exc c fs _ h => .exc c fs h
  | _ => .no
@[simp] theorem RS.fin_nx (σ h) : (RS.ok (.nx σ) h).fin = .ok .non h := rfl
@[simp] theorem RS.fin_rt (d h) : (RS.ok (.rt d) h).fin = .ok d h := rfl
@[simp] theorem RS.fin_exc (c fs σ h) : (RS.exc c fs σ h).fin = .exc c fs h := rfl
def start (ns : Nat) (ds : List D) : Sg := ds.map some ++ List.replicate (ns - ds.length) none
noncomputable def callF (W : Wd) (L : Nat) : Nat → CF
  | 0, _, _, _ => .no
  | n + 1, f, ds, h => match W.fns[f]? with
    | some fi => if ds.length = fi.np then (evalB W L (callF W L n) none fi.body (start fi.ns ds) h).fin else .no
    | none => .no
end Rf
end

section
namespace Rf
open PySem PySem.Spec PyProof.Rows L2

structure Mx where
  W : Wd
  fa : Nat → Option Addr
  ca : Nat → Option Addr
  ga : Nat → Option Addr
  cx : CXI := none
  xd : Option (Addr × List (String × D)) := none
  ex : Option (Nat × Addr) := none
@[reducible] def Mx.g (M : Mx) (K : PySem.W.Frag) : Gx := ⟨M.W, K, M.fa, M.ca, M.ga, M.xd, M.ex⟩

/-- what is asked of an outcome -/
def post {α β : Type} (G : Gx) (Wx : WX) (Rl : List Addr → Hp → α → β → Prop) (as : List Addr) (H : Hp) (σ : L2.St) (r : R α) (Q : β → Hp → Prop) : Prop :=
  match r with
  | .ok d h' => ∀ v as' H', Ext as H as' H' → HI G h' as' H' → Rl as' H' d v → Q v H'
  | .exc c fs h' => ∀ C dx vs as' H', Ext as H as' H' → HI G h' as' H' → G.ca c = some C → H' dx = some (.xd vs) → RepF G as' H' fs vs → Wx (.ref C) (some dx) σ H'
  | .no => False
abbrev rB : List Addr → Hp → Bool → Bool → Prop := fun _ _ d v => d = v
section
variable {α β γ δ : Type} {G : Gx} {Wx : WX} {Rl : List Addr → Hp → α → β → Prop} {Rm : List Addr → Hp → γ → δ → Prop} {as as' : List Addr} {H H' : Hp} {σ : L2.St} {r : R α}
theorem post.mono {Q : β → Hp → Prop} (x : Ext as H as' H') (p : post G Wx Rl as H σ r Q) : post G Wx Rl as' H' σ r Q := by
  cases r with
  | ok d h => exact fun v as2 H2 e => p v as2 H2 (x.trans e)
  | exc c fs h => exact fun C dx vs as2 H2 e => p C dx vs as2 H2 (x.trans e)
  | no => exact p
theorem post.bind {f : α → Hs → R γ} {Q : δ → Hp → Prop} (p : post G Wx Rm as H σ (r.bind f) Q) :
    post G Wx Rl as H σ r fun v H1 => ∃ d h1 as1, r = .ok d h1 ∧ Ext as H as1 H1 ∧ HI G h1 as1 H1 ∧ Rl as1 H1 d v ∧ post G Wx Rm as1 H1 σ (f d h1) Q := by
  cases r with
  | ok d h => exact fun v as2 H2 e i q => ⟨d, h, as2, rfl, e, i, q, p.mono e⟩
  | exc c fs h => exact p
  | no => exact p
theorem post.ofO {o : Option α} {h : Hs} {f : α → Hs → R γ} {Q : δ → Hp → Prop} (p : post G Wx Rm as H σ ((ofO o h).bind f) Q) : ∃ a, o = some a ∧ post G Wx Rm as H σ (f a h) Q := by
  cases o with
  | none => exact False.elim p
  | some a => exact ⟨a, rfl, p⟩
end
/-- readings -/
def tE (G : Gx) (Wx : WX) (ev : Sg → Hs → R D) : TE := fun σ H Q => ∃ σI h as, SL G σI as H σ ∧ HI G h as H ∧ post G Wx (Rep G) as H σ (ev σI h) Q
def tEs (G : Gx) (Wx : WX) (ev : Sg → Hs → R (List D)) : TA := fun σ H Q => ∃ σI h as, SL G σI as H σ ∧ HI G h as H ∧ post G Wx (Reps G) as H σ (ev σI h) Q
def tT (G : Gx) (Wx : WX) (ev : Sg → Hs → R D) : TT := fun σ H Q => ∃ σI h as, SL G σI as H σ ∧ HI G h as H ∧ post G Wx rB as H σ ((ev σI h).bind truthR) Q
section
variable {X : Cx} {M : Mx} {Wx : WX} {pins : List (Addr × Obj)} {s : Shared} {σ : L2.St} {H : Hp}
theorem RelV.str_of {z : Str} {u : Value} (r : RelV (.str z) u) : ∃ t, u = .str z t := r
/-- x op y -/
theorem opD_ok {o : Op} {op : Operator} (ho : (o, op) ∈ [(Op.add, Operator.Add), (.sub, .Sub), (.mul, .Mult), (.fdiv, .FloorDiv), (.mod, .Mod)]) {x y : V} {v u : Value} {dx dy : D} {h : Hs} {as : List Addr} {Q : VK} (I : Inv X pins σ H s) (rx : RelV x v) (ry : RelV y u)
    (hi : HI (M.g X.K) h as H) (r1 : Rep (M.g X.K) as H dx x) (r2 : Rep (M.g X.K) as H dy y) (p : post (M.g X.K) Wx (Rep (M.g X.K)) as H σ (opD o dx dy h) Q) :
    wpAny (model X.prog X.w) X.A (binaryOp op v u) (EP X pins σ Q) X.xe s := by
  simp only [List.mem_cons, List.not_mem_nil, or_false, Prod.mk.injEq] at ho
  have int2 : ∀ {i j : Int} {g : Int → Int → Int} {C : Int → Int → Prop}, OpR X (binaryOp op) (rI C fun i j => .int (g i j)) → dx = .int i → dy = .int j → C i j → opD o dx dy h = .ok (.int (g i j)) h → wpAny (model X.prog X.w) X.A (binaryOp op v u) (EP X pins σ Q) X.xe s := by
    intro i j g C hop e1 e2 hc e3
    subst e1 e2
    simp only [Rep] at r1 r2
    subst r1 r2
    rw [e3] at p
    exact hop pins s σ H _ _ v u Q I rx ry ⟨i, j, rfl, rfl, hc, p _ as H Ext.refl hi rfl⟩
  cases dx with
  | int i =>
    cases dy with
    | int j =>
      rcases ho with ⟨rfl, rfl⟩ | ⟨rfl, rfl⟩ | ⟨rfl, rfl⟩ | ⟨rfl, rfl⟩ | ⟨rfl, rfl⟩
      · exact int2 (C := fun _ _ => True) (g := fun i j => i + j) (fun pins s σ H x y v u Q I a b ⟨i, j, e1, e2, _, q⟩ => op_add pins s σ H x y v u Q I a b ⟨i, j, e1, e2, q⟩) rfl rfl trivial rfl
      · exact int2 (C := fun _ _ => True) (g := fun i j => i - j) (fun pins s σ H x y v u Q I a b ⟨i, j, e1, e2, _, q⟩ => op_sub pins s σ H x y v u Q I a b ⟨i, j, e1, e2, q⟩) rfl rfl trivial rfl
      · by_cases hc : (-(2 ^ 64) < i ∧ i < 2 ^ 64) ∨ (-(2 ^ 64) < j ∧ j < 2 ^ 64)
        · exact int2 op_mul rfl rfl hc (by simp only [opD, if_pos hc])
        · simp only [opD, if_neg hc] at p; exact p.elim
      · by_cases hc : j ≠ 0 ∧ j.natAbs < 1073741824
        · exact int2 op_fdivN rfl rfl hc (by simp only [opD, if_pos hc])
        · simp only [opD, if_neg hc] at p; exact p.elim
      · by_cases hc : j ≠ 0
        · exact int2 op_modN rfl rfl hc (by simp only [opD, if_pos hc])
        · simp only [opD, if_neg hc] at p; exact p.elim
    | _ => rcases ho with ⟨rfl, rfl⟩ | ⟨rfl, rfl⟩ | ⟨rfl, rfl⟩ | ⟨rfl, rfl⟩ | ⟨rfl, rfl⟩ <;> exact p.elim
  | str z =>
    cases dy with
    | str z' =>
      rcases ho with ⟨rfl, rfl⟩ | ⟨rfl, rfl⟩ | ⟨rfl, rfl⟩ | ⟨rfl, rfl⟩ | ⟨rfl, rfl⟩
      · simp only [Rep] at r1 r2
        subst r1 r2
        by_cases hc : z.length + z'.length ≤ sizeLine
        · simp only [opD, if_pos hc] at p
          refine op_add_str pins s σ H _ _ v u Q I rx ry ⟨_, _, rfl, rfl, by simpa [st, Str.length] using hc, ?_⟩
          refine p _ as H Ext.refl hi ?_
          simp only [Rep]
          show V.str ⟨(st z).cps ++ (st z').cps⟩ = _
          simp [st]
        · simp only [opD, if_neg hc] at p; exact p.elim
      all_goals exact p.elim
    | int k =>
      rcases ho with ⟨rfl, rfl⟩ | ⟨rfl, rfl⟩ | ⟨rfl, rfl⟩ | ⟨rfl, rfl⟩ | ⟨rfl, rfl⟩
      · exact p.elim
      · exact p.elim
      · simp only [Rep] at r1 r2
        subst r1 r2
        by_cases hc : 1 ≤ k ∧ k < 1000000 ∧ z ≠ [] ∧ z.length * k.toNat ≤ 1000000
        · simp only [opD, if_pos hc] at p
          obtain ⟨c1, c2, c3, c4⟩ := hc
          obtain ⟨t, rfl⟩ := rx
          obtain ⟨t', rfl⟩ := ry
          have zl : (st z).length = z.length := by simp [st, Str.length]
          have zp : 0 < z.length := List.length_pos_iff.mpr c3
          have tl : Builtin.Str.tooLong ((st z).length * k.toNat) = false := by
            rw [zl]
            have e : sizeLine = 16777216 := rfl
            exact decide_eq_false (by omega)
          refine PySem.P.mul_str (by rw [decide_eq_false (by omega), decide_eq_false (by omega)]; rfl) (fun _ _ => ?_) (fun _ _ => tl) ?_
          · rw [zl]
            have : ((z.length : Int)) ≤ 1000000 := by
              have : z.length * 1 ≤ z.length * k.toNat := Nat.mul_le_mul_left _ (by omega)
              omega
            have h2 : (1000000 : Int) ≤ (2 ^ 63 - 1) / k := by
              rw [Int.le_ediv_iff_mul_le (by omega)]; omega
            omega
          · by_cases k1 : k = 1
            · subst k1
              rw [if_neg (by omega), if_pos (by simp)]
              refine ⟨.str (st z), H, I, ⟨_, rfl⟩, p _ as H Ext.refl hi ?_⟩
              simp only [Rep]
              simp
            rw [if_neg (by omega), if_neg]
            · refine ⟨fits_reps tl, ⟨.str ⟨(List.replicate k.toNat (st z).cps).foldl (· ++ ·) #[]⟩, H, I.tok _, ⟨_, rfl⟩, p _ as H Ext.refl hi ?_⟩⟩
              simp only [Rep]
              have fl : ∀ (n : Nat) (acc : List Nat), (List.replicate n (st z).cps).foldl (· ++ ·) acc.toArray = (acc ++ ((List.replicate n z).flatten).map Char.toNat).toArray := by
                intro n
                induction n with
                | zero => intro acc; simp
                | succ n ih =>
                  intro acc
                  rw [List.replicate_succ, List.foldl_cons]
                  have e : acc.toArray ++ (st z).cps = (acc ++ z.map Char.toNat).toArray := by simp [st]
                  rw [e, ih]
                  simp [List.replicate_succ]
              have := fl k.toNat []
              simp only [List.nil_append] at this
              show V.str ⟨_⟩ = V.str (st _)
              rw [this]; rfl
            · rw [zl]
              have : (k == 1) = false := by simp; omega
              have h2 : (z.length == 0) = false := by simp; exact c3
              rw [this, h2]; decide
        · simp only [opD, if_neg hc] at p; exact p.elim
      · exact p.elim
      · exact p.elim
    | _ => rcases ho with ⟨rfl, rfl⟩ | ⟨rfl, rfl⟩ | ⟨rfl, rfl⟩ | ⟨rfl, rfl⟩ | ⟨rfl, rfl⟩ <;> exact p.elim
  | tup xs =>
    cases dy with
    | tup ys =>
      rcases ho with ⟨rfl, rfl⟩ | ⟨rfl, rfl⟩ | ⟨rfl, rfl⟩ | ⟨rfl, rfl⟩ | ⟨rfl, rfl⟩
      · simp only [Rep] at r1 r2
        obtain ⟨a, vs, rfl, sa, ra⟩ := r1
        obtain ⟨b, ws, rfl, sb, rb⟩ := r2
        by_cases hc : xs.length + ys.length ≤ sizeLine
        · simp only [opD, if_pos hc] at p
          refine op_catA pins s σ H _ _ v u Q I rx ry ⟨a, b, vs, ws, rfl, rfl, SqT.of sa, SqT.of sb, by rw [← ra.length, ← rb.length]; exact hc, fun e => ?_, fun _ e => ?_, fun _ e q hq => ?_⟩
          · refine p _ as H Ext.refl hi ?_
            obtain rfl := ra.nil_iff.mpr e
            simp only [Rep, List.nil_append]
            exact ⟨b, ws, rfl, sb, rb⟩
          · refine p _ as H Ext.refl hi ?_
            obtain rfl := rb.nil_iff.mpr e
            simp only [Rep, List.append_nil]
            exact ⟨a, vs, rfl, sa, ra⟩
          · refine p _ as _ (ext_tup hq) (hi.other hq) ?_
            simp only [Rep]
            exact ⟨q, _, rfl, upd_same, Reps.append (ra.mono (ext_tup hq)) (rb.mono (ext_tup hq))⟩
        · simp only [opD, if_neg hc] at p; exact p.elim
      all_goals exact p.elim
    | _ => rcases ho with ⟨rfl, rfl⟩ | ⟨rfl, rfl⟩ | ⟨rfl, rfl⟩ | ⟨rfl, rfl⟩ | ⟨rfl, rfl⟩ <;> exact p.elim
  | ob n =>
    cases dy with
    | ob m =>
      rcases ho with ⟨rfl, rfl⟩ | ⟨rfl, rfl⟩ | ⟨rfl, rfl⟩ | ⟨rfl, rfl⟩ | ⟨rfl, rfl⟩
      · simp only [Rep] at r1 r2
        obtain ⟨a, rfl, ea⟩ := r1
        obtain ⟨b, rfl, eb⟩ := r2
        simp only [opD] at p
        split at p
        · rename_i xs ys e1 e2
          by_cases hc : xs.length + ys.length ≤ sizeLine
          · rw [if_pos hc] at p
            obtain ⟨vs, h1, rv⟩ := hi.ob n _ a e1 ea
            obtain ⟨ws, h2, rw'⟩ := hi.ob m _ b e2 eb
            refine op_cat pins s σ H _ _ v u Q I rx ry ⟨a, b, vs, ws, rfl, rfl, h1, h2, by rw [← rv.length, ← rw'.length]; exact hc, fun q hq => ?_⟩
            refine p _ (as ++ [q]) _ (ext_new hq) (hi.new hq ⟨_, upd_same, Reps.append (rv.mono (ext_new hq)) (rw'.mono (ext_new hq))⟩) ?_
            simp only [Rep]
            exact ⟨q, rfl, by rw [← hi.len]; simp⟩
          · rw [if_neg hc] at p; exact p.elim
        · exact p.elim
      all_goals exact p.elim
    | _ => rcases ho with ⟨rfl, rfl⟩ | ⟨rfl, rfl⟩ | ⟨rfl, rfl⟩ | ⟨rfl, rfl⟩ | ⟨rfl, rfl⟩ <;> exact p.elim
  | _ => rcases ho with ⟨rfl, rfl⟩ | ⟨rfl, rfl⟩ | ⟨rfl, rfl⟩ | ⟨rfl, rfl⟩ | ⟨rfl, rfl⟩ <;> exact p.elim
end
end Rf
end

section
namespace Rf
open PySem PySem.Spec PyProof.Rows L2

/-! ## data as PyData -/
mutual
theorem toPy_lay : ∀ (d : D), (toPy d).canLay0 = true
  | .non => by simp [toPy, PyData.canLay0]
  | .bl _ => by simp [toPy, PyData.canLay0]
  | .int _ => by simp [toPy, PyData.canLay0]
  | .str s => by
    simp only [toPy, PyData.canLay0, PyData.strOk]
    simp only [List.all_toArray, List.all_map, List.all_eq_true]
    intro c _
    have h := c.valid
    simp only [UInt32.isValidChar, Nat.isValidChar] at h
    simp only [Function.comp, decide_eq_true_eq]
    show c.val.toNat < 0x110000
    omega
  | .tup xs => by simp only [toPy, PyData.canLay0]; exact toPys_lay xs
  | .ob _ => by simp [toPy, PyData.canLay0]
  | .fn _ => by simp [toPy, PyData.canLay0]
  | .con _ => by simp [toPy, PyData.canLay0]
theorem toPys_lay : ∀ (ds : List D), PyData.canLayAll0 (toPys ds) = true
  | [] => by simp [toPys, PyData.canLayAll0]
  | d :: ds => by simp only [toPys, PyData.canLayAll0, toPy_lay d, toPys_lay ds, Bool.and_self]
end
mutual
theorem toPy_dep : ∀ (d : D), (toPy d).depth = dep d
  | .non => by simp [toPy, PyData.depth, dep]
  | .bl _ => by simp [toPy, PyData.depth, dep]
  | .int _ => by simp [toPy, PyData.depth, dep]
  | .str _ => by simp [toPy, PyData.depth, dep]
  | .tup xs => by simp only [toPy, PyData.depth, dep, toPys_dep xs]
  | .ob _ => by simp [toPy, PyData.depth, dep]
  | .fn _ => by simp [toPy, PyData.depth, dep]
  | .con _ => by simp [toPy, PyData.depth, dep]
theorem toPys_dep : ∀ (ds : List D), PyData.depthAll (toPys ds) = deps ds
  | [] => by simp [toPys, PyData.depthAll, deps]
  | d :: ds => by simp only [toPys, PyData.depthAll, deps, toPy_dep d, toPys_dep ds]
end
section
variable {G : Gx} {as : List Addr} {H : Hp}
mutual
theorem Rep.dp : ∀ {d : D} {v : V}, pur d = true → Rep G as H d v → Dp G.K H v (toPy d)
  | .non, _, _, h => by simp only [Rep] at h; subst h; simp only [toPy]; exact .non
  | .bl b, _, _, h => by simp only [Rep] at h; subst h; simp only [toPy]; exact .bl b
  | .int b, _, _, h => by simp only [Rep] at h; subst h; simp only [toPy]; exact .int b
  | .str b, _, _, h => by simp only [Rep] at h; subst h; simp only [toPy]; exact .str _
  | .tup ds, _, p, h => by
    simp only [Rep] at h
    obtain ⟨a, vs, rfl, hs, hr⟩ := h
    simp only [pur] at p
    simp only [toPy]
    exact .tup (SqT.of hs) (Reps.dp p hr)
  | .ob _, _, p, _ => by simp [pur] at p
  | .fn _, _, p, _ => by simp [pur] at p
  | .con _, _, p, _ => by simp [pur] at p
theorem Reps.dp : ∀ {ds : List D} {vs : List V}, purs ds = true → Reps G as H ds vs → DpAll G.K H vs (toPys ds)
  | [], _, _, h => by simp only [Reps] at h; subst h; simp only [toPys]; exact .nil
  | d :: ds, _, p, h => by
    simp only [purs, Bool.and_eq_true] at p
    simp only [Reps] at h
    obtain ⟨v, r, rfl, h1, h2⟩ := h
    simp only [toPys]
    exact .cons (Rep.dp p.1 h1) (Reps.dp p.2 h2)
end
end
section
variable {X : Cx} {M : Mx} {Wx : WX} {pins : List (Addr × Obj)} {s : Shared} {σ : L2.St} {H : Hp}
theorem eqD_ok {x y : V} {dx dy : D} {h : Hs} {as : List Addr} {b : Bool} (hi : HI (M.g X.K) h as H) (r1 : Rep (M.g X.K) as H dx x) (r2 : Rep (M.g X.K) as H dy y) (e : eqD h dx dy = some b) :
    ∃ d d', Dp X.K H x d ∧ Dp X.K H y d' ∧ SeqAt.shaped d = true ∧ SeqAt.shaped d' = true ∧ PyData.eqv d d' = b := by
  have pure_ : ∀ dx dy : D, Rep (M.g X.K) as H dx x → Rep (M.g X.K) as H dy y → (if flat dx && flat dy then some (eqv dx dy) else none) = some b → ∃ d d', Dp X.K H x d ∧ Dp X.K H y d' ∧ SeqAt.shaped d = true ∧ SeqAt.shaped d' = true ∧ PyData.eqv d d' = b := by
    intro dx dy r1 r2 e
    split at e
    · rename_i hf
      simp only [flat, Bool.and_eq_true, decide_eq_true_eq] at hf
      obtain ⟨⟨p1, d1⟩, p2, d2⟩ := hf
      refine ⟨toPy dx, toPy dy, Rep.dp (G := M.g X.K) p1 r1, Rep.dp (G := M.g X.K) p2 r2, ?_, ?_, ?_⟩
      · unfold SeqAt.shaped; rw [toPy_lay, toPy_dep]; simpa using d1
      · unfold SeqAt.shaped; rw [toPy_lay, toPy_dep]; simpa using d2
      · rw [eqv_toPy _ _ p1 p2]; exact Option.some.inj e
    · cases e
  cases dx with
  | ob n =>
    cases dy with
    | ob m =>
      simp only [eqD] at e
      split at e
      · rename_i xs ys e1 e2
        split at e
        · rename_i hc
          simp only [Bool.and_eq_true, decide_eq_true_eq] at hc
          obtain ⟨⟨⟨p1, p2⟩, d1⟩, d2⟩ := hc
          simp only [Rep] at r1 r2
          obtain ⟨a, rfl, ea⟩ := r1
          obtain ⟨b', rfl, eb⟩ := r2
          obtain ⟨vs, h1, rv⟩ := hi.ob n _ a e1 ea
          obtain ⟨ws, h2, rw'⟩ := hi.ob m _ b' e2 eb
          refine ⟨.list (toPys xs), .list (toPys ys), .lst (SqL.of h1) (Reps.dp (G := M.g X.K) p1 rv), .lst (SqL.of h2) (Reps.dp (G := M.g X.K) p2 rw'), ?_, ?_, ?_⟩
          · unfold SeqAt.shaped
            simp only [PyData.canLay0, PyData.depth, toPys_lay, toPys_dep, Bool.true_and, decide_eq_true_eq]; omega
          · unfold SeqAt.shaped
            simp only [PyData.canLay0, PyData.depth, toPys_lay, toPys_dep, Bool.true_and, decide_eq_true_eq]; omega
          · simp only [PyData.eqv]; rw [eqvs_toPy _ _ p1 p2]; exact Option.some.inj e
        · cases e
      · cases e
    | _ => exact pure_ _ _ r1 r2 e
  | _ => cases dy <;> exact pure_ _ _ r1 r2 e
/-- truth -/
theorem truth_ok {x : V} {dx : D} {h : Hs} {as : List Addr} {b : Bool} (hi : HI (M.g X.K) h as H) (r1 : Rep (M.g X.K) as H dx x) (e : truth dx h = some b) : TruV X.K x H b := by
  have emp : ∀ {ds : List D} {vs : List V}, Reps (M.g X.K) as H ds vs → (!ds.isEmpty) = !vs.isEmpty := by
    intro ds vs r
    cases ds <;> cases vs <;> simp [Reps] at r ⊢
  cases dx with
  | non => simp only [Rep] at r1; subst r1; simp only [truth, Option.some.injEq] at e; exact e.symm
  | bl c => simp only [Rep] at r1; subst r1; simp only [truth, Option.some.injEq] at e; exact e.symm
  | int i => simp only [Rep] at r1; subst r1; simp only [truth, Option.some.injEq] at e; exact e.symm
  | str z =>
    simp only [Rep] at r1; subst r1; simp only [truth] at e
    split at e
    · rename_i hl
      refine ⟨by simpa [st, Str.length] using hl, ?_⟩
      rw [← Option.some.inj e]
      have : (st z).length = z.length := by simp [st, Str.length]
      rw [this]
      cases z with
      | nil => rfl
      | cons a r =>
        simp only [List.isEmpty_cons, Bool.not_false, List.length_cons]
        symm
        rw [bne_iff_ne]; omega
    · cases e
  | tup ds =>
    simp only [Rep] at r1
    obtain ⟨a, vs, rfl, hs, hr⟩ := r1
    simp only [truth, Option.some.injEq] at e
    exact .inr (.inl ⟨vs, SqT.of hs, by rw [← e]; exact emp hr⟩)
  | ob n =>
    simp only [Rep] at r1
    obtain ⟨a, rfl, ea⟩ := r1
    simp only [truth] at e
    split at e
    · rename_i ds e1
      obtain ⟨vs, h1, hr⟩ := hi.ob n _ a e1 ea
      exact .inl ⟨vs, SqL.of h1, by rw [← Option.some.inj e]; exact emp hr⟩
    · rename_i ds e1
      obtain ⟨o, h1⟩ := hi.ob n _ a e1 ea
      exact .inl ⟨_, .inl (.inr ⟨o, h1⟩), by rw [← Option.some.inj e]; cases ds <;> rfl⟩
    · cases e
  | fn i => simp [truth] at e
  | con i => simp [truth] at e
/-- in a list or tuple -/
theorem Rep.inj_pur (I : Inv X pins σ H s) {as : List Addr} : ∀ {d d' : D} {v : V}, pur d = true → pur d' = true → Rep (M.g X.K) as H d v → Rep (M.g X.K) as H d' v → toPy d = toPy d' := by
  intro d d' v p p' r r'
  have h1 := Rep.dp (G := M.g X.K) p r
  have h2 := Rep.dp (G := M.g X.K) p' r'
  have key : ∀ (a : PyData) (v : V) (b : PyData), Dp X.K H v a → Dp X.K H v b → (∀ xs, a ≠ .list xs) → True := fun _ _ _ _ _ _ => trivial
  clear key r r' p p'
  revert h1 h2
  generalize toPy d = a
  generalize toPy d' = b
  intro h1 h2
  have main : (∀ (v : V) (a : PyData), Dp X.K H v a → ∀ b, Dp X.K H v b → a = b) := by
    intro v a h
    refine Dp.rec (motive_1 := fun v a _ => ∀ b, Dp X.K H v b → a = b) (motive_2 := fun vs ds _ => ∀ es, DpAll X.K H vs es → ds = es) ?_ ?_ ?_ ?_ ?_ ?_ ?_ ?_ h
    · intro b h; cases h; rfl
    · intro c b h; cases h; rfl
    · intro c b h; cases h; rfl
    · intro c b h; cases h; rfl
    · intro p xs ds hs _ ih b h
      cases h with
      | lst hs' ha' => rw [I.list_inj hs hs'] at ih; rw [ih _ ha']
      | tup hs' ha' =>
        obtain ⟨_, _, ⟨o, n, e, c, _⟩, _⟩ := I.list hs
        obtain ⟨_, _, ⟨o', e', c', _⟩, _⟩ := I.tuple hs'
        rw [e] at e'; cases e'; rw [c] at c'; injection c' with c2; exact absurd c2 (by decide)
    · intro p xs ds hs _ ih b h
      cases h with
      | tup hs' ha' => rw [I.tuple_inj hs hs'] at ih; rw [ih _ ha']
      | lst hs' ha' =>
        obtain ⟨_, _, ⟨o, n, e, c, _⟩, _⟩ := I.list hs'
        obtain ⟨_, _, ⟨o', e', c', _⟩, _⟩ := I.tuple hs
        rw [e] at e'; cases e'; rw [c] at c'; injection c' with c2; exact absurd c2 (by decide)
    · intro es h; cases h; rfl
    · intro v vs d ds _ _ ih1 ih2 es h
      cases h with
      | cons a b => rw [ih1 _ a, ih2 _ b]
  exact main v a h1 b h2
open Classical in
theorem in_seq_ok {neg : Bool} {op : CmpOp} (hop : (neg, op) = (false, .In) ∨ (neg, op) = (true, .NotIn)) {x : V} {dx : D} {ys : List D} {vs : List V} {p : Addr} {v : Value} {h : Hs} {as : List Addr} {Q : VK} (hu : X.A.units + 200 < cLine) (I : Inv X pins σ H s)
    (rx : RelV x v) (hi : HI (M.g X.K) h as H) (r1 : Rep (M.g X.K) as H dx x) (hq : SqL X.K H p vs ∨ SqT X.K H p vs) (r2 : Reps (M.g X.K) as H ys vs) (fx : flat dx = true) (fy : ys.all flat = true)
    (q : Q (.bl (if neg then !inL dx ys else inL dx ys)) H) : wpAny (model X.prog X.w) X.A (compareOp op v (.ref p)) (EP X pins σ Q) X.xe s := by
  have flat_ : ∀ {d}, flat d = true → pur d = true ∧ dep d ≤ 64 := by
    intro d hd; simpa [flat] using hd
  obtain ⟨px, dxx⟩ := flat_ fx
  -- the answers by the values
  have go : ∀ its : List Value, Vals vs its → ∃ ans : Value → Bool, (∀ w ∈ its, SeqAt.EqAt X.A.in1 s w v (ans w)) ∧ its.any ans = inL dx ys := by
    intro its rv
    have room : ∀ (d : D), X.A.in1.units + min (toPy d).depth (toPy dx).depth < cLine := by
      intro d
      rw [toPy_dep, toPy_dep]
      show X.A.units + 1 + _ < _
      have := Nat.min_le_right (dep d) (dep dx)
      omega
    obtain ⟨as1, rdx⟩ := Dp.reads I (toPy dx) x v (Rep.dp (G := M.g X.K) px r1) rx
    have one : ∀ {d : D} {y : V} {w : Value}, pur d = true → Rep (M.g X.K) as H d y → RelV y w → SeqAt.EqAt X.A.in1 s w v (eqv d dx) := by
      intro d y w pd rd rw_
      obtain ⟨bs, rdy⟩ := Dp.reads I (toPy d) y w (Rep.dp (G := M.g X.K) pd rd) rw_
      rw [← eqv_toPy d dx pd px]
      exact SeqAt.eqAt_reads (toPy d) (toPy dx) X.A.in1 s w v bs as1 rdy rdx (toPy_lay _) (toPy_lay _) (room d)
    refine ⟨fun w => decide (∃ d y, d ∈ ys ∧ Rep (M.g X.K) as H d y ∧ RelV y w ∧ eqv d dx = true), ?_, ?_⟩
    · intro w hw
      have : ∀ (ys : List D) (vs : List V) (its : List Value), Reps (M.g X.K) as H ys vs → Vals vs its → w ∈ its → ∃ d y, d ∈ ys ∧ Rep (M.g X.K) as H d y ∧ RelV y w := by
        intro ys
        induction ys with
        | nil => intro vs its r rv hw; simp only [Reps] at r; subst r; cases rv; cases hw
        | cons d ds ih =>
          intro vs its r rv hw
          simp only [Reps] at r
          obtain ⟨y, r', rfl, h1, h2⟩ := r
          cases rv with
          | cons a b =>
            rcases List.mem_cons.mp hw with rfl | hw
            · exact ⟨d, y, List.mem_cons_self, h1, a⟩
            · obtain ⟨d', y', m, q1, q2⟩ := ih _ _ h2 b hw
              exact ⟨d', y', List.mem_cons_of_mem _ m, q1, q2⟩
      obtain ⟨d, y, hd, rd, rw_⟩ := this ys vs its r2 rv hw
      have pd := (flat_ (List.all_eq_true.mp fy d hd)).1
      have e : decide (∃ d y, d ∈ ys ∧ Rep (M.g X.K) as H d y ∧ RelV y w ∧ eqv d dx = true) = eqv d dx := by
        cases he : eqv d dx with
        | true => exact decide_eq_true ⟨d, y, hd, rd, rw_, he⟩
        | false =>
          refine decide_eq_false ?_
          rintro ⟨d', y', hd', rd', rw', he'⟩
          obtain rfl := rw'.inj rw_
          have pd' := (flat_ (List.all_eq_true.mp fy d' hd')).1
          have e := Rep.inj_pur (M := M) I pd pd' rd rd'
          rw [← eqv_toPy d dx pd px] at he
          rw [← eqv_toPy d' dx pd' px, ← e, he] at he'
          cases he'
      show SeqAt.EqAt X.A.in1 s w v (decide _)
      rw [e]
      exact one pd rd rw_
    · rw [Bool.eq_iff_iff, List.any_eq_true, inL, List.any_eq_true]
      constructor
      · rintro ⟨w, _, hw⟩
        obtain ⟨d, y, hd, _, _, he⟩ := of_decide_eq_true hw
        exact ⟨d, hd, he⟩
      · rintro ⟨d, hd, he⟩
        have : ∀ (ys : List D) (vs : List V) (its : List Value), Reps (M.g X.K) as H ys vs → Vals vs its → d ∈ ys → ∃ w y, w ∈ its ∧ Rep (M.g X.K) as H d y ∧ RelV y w := by
          intro ys
          induction ys with
          | nil => intro vs its r rv hw; cases hw
          | cons d0 ds ih =>
            intro vs its r rv hw
            simp only [Reps] at r
            obtain ⟨y, r', rfl, h1, h2⟩ := r
            cases rv with
            | cons a b =>
              rcases List.mem_cons.mp hw with rfl | hw
              · exact ⟨_, y, List.mem_cons_self, h1, a⟩
              · obtain ⟨w', y', m, q1, q2⟩ := ih _ _ h2 b hw
                exact ⟨w', y', List.mem_cons_of_mem _ m, q1, q2⟩
        obtain ⟨w, y, hw, rd, rw_⟩ := this ys vs its r2 rv hd
        exact ⟨w, hw, decide_eq_true ⟨d, y, hd, rd, rw_, he⟩⟩
  rcases hq with hq | hq
  · obtain ⟨its, rv, pl, hz⟩ := I.list hq
    obtain ⟨ans, a1, a2⟩ := go its rv
    rcases hop with e | e <;> cases e
    · refine SeqAt.in_listAt ans pl.isList (fun w hw => a1 w (by simpa using hw)) ⟨.bl _, H, I, rfl, ?_⟩
      rw [show its.toArray.any ans = its.any ans by simp, a2]; exact q
    · refine SeqAt.notIn_listAt ans pl.isList (fun w hw => a1 w (by simpa using hw)) ⟨.bl _, H, I, rfl, ?_⟩
      rw [show its.toArray.any ans = its.any ans by simp, a2]; exact q
  · obtain ⟨its, rv, pl, hz⟩ := I.tuple hq
    obtain ⟨ans, a1, a2⟩ := go its rv
    rcases hop with e | e <;> cases e
    · refine SeqAt.in_tupleAt ans pl (fun w hw => a1 w (by simpa using hw)) ⟨.bl _, H, I, rfl, ?_⟩
      rw [show its.toArray.any ans = its.any ans by simp, a2]; exact q
    · refine SeqAt.notIn_tupleAt ans pl (fun w hw => a1 w (by simpa using hw)) ⟨.bl _, H, I, rfl, ?_⟩
      rw [show its.toArray.any ans = its.any ans by simp, a2]; exact q
end
end Rf
end

section
namespace Rf
open PySem PySem.Spec PyProof.Rows L2

theorem post.imp {α β : Type} {G : Gx} {Wx : WX} {Rl : List Addr → Hp → α → β → Prop} {as : List Addr} {H : Hp} {σ : L2.St} {r : R α} {Q Q' : β → Hp → Prop} (p : post G Wx Rl as H σ r Q) (h : ∀ v H', Q v H' → Q' v H') : post G Wx Rl as H σ r Q' := by
  cases r with
  | ok d h' => exact fun v as2 H2 e i q => h _ _ (p v as2 H2 e i q)
  | exc c fs h' => exact p
  | no => exact p

/-! ## keys -/
theorem st_inj {s t : List Char} (e : st s = st t) : s = t := by
  have := st_beq s t
  rw [e, beq_self_eq_true] at this
  exact (eq_of_beq this.symm)
theorem eqv_key {a k : D} {x y : Key} (ha : keyK a = some x) (hk : keyK k = some y) : eqv a k = decide (x = y) := by
  cases a <;> simp only [keyK, Option.some.injEq, reduceCtorEq] at ha <;> cases k <;> simp only [keyK, Option.some.injEq, reduceCtorEq] at hk <;> subst ha hk
  · rename_i i j
    simp only [eqv]
    rw [Bool.eq_iff_iff, beq_iff_eq, decide_eq_true_eq]
    exact ⟨fun e => by rw [e], fun e => Sum.inl.inj e⟩
  · simp only [eqv]
    exact (decide_eq_false (fun q => nomatch q)).symm
  · simp only [eqv]
    exact (decide_eq_false (fun q => nomatch q)).symm
  · rename_i i j
    simp only [eqv]
    rw [Bool.eq_iff_iff, beq_iff_eq, decide_eq_true_eq]
    exact ⟨fun e => by rw [e], fun e => st_inj (Sum.inr.inj e)⟩
theorem eqvs_key : ∀ {a k : List D} {x y : List Key}, keyKs a = some x → keyKs k = some y → eqvs a k = decide (x = y)
  | [], [], x, y, ha, hk => by simp only [keyKs, Option.some.injEq] at ha hk; subst ha hk; simp [eqvs]
  | [], d :: ds, x, y, ha, hk => by
    simp only [keyKs, Option.some.injEq] at ha; subst ha
    simp only [keyKs] at hk
    split at hk
    · cases hk; simp [eqvs]
    · cases hk
  | d :: ds, [], x, y, ha, hk => by
    simp only [keyKs, Option.some.injEq] at hk; subst hk
    simp only [keyKs] at ha
    split at ha
    · cases ha; simp [eqvs]
    · cases ha
  | d :: ds, e :: es, x, y, ha, hk => by
    simp only [keyKs] at ha hk
    split at ha
    · rename_i k1 ks1 e1 e2
      split at hk
      · rename_i k2 ks2 e3 e4
        cases ha; cases hk
        simp only [eqvs, eqv_key e1 e3, eqvs_key e2 e4]
        rw [Bool.eq_iff_iff]
        simp
      · cases hk
    · cases ha
theorem eqv_keyT {a k : D} {x y : List Key} (ha : keyT a = some x) (hk : keyT k = some y) : eqv a k = decide (x = y) := by
  cases a <;> simp only [keyT, reduceCtorEq] at ha
  cases k <;> simp only [keyT, reduceCtorEq] at hk
  simp only [eqv]
  exact eqvs_key ha hk
theorem isK_key {d : D} (h : isK d = true) : ∃ k, keyK d = some k := by
  cases d <;> simp [isK] at h <;> exact ⟨_, rfl⟩
theorem isT_key {d : D} (h : isT d = true) : ∃ k, keyT d = some k := by
  cases d with
  | tup ds =>
    simp only [isT] at h
    simp only [keyT]
    induction ds with
    | nil => exact ⟨[], rfl⟩
    | cons a r ih =>
      simp only [List.all_cons, Bool.and_eq_true] at h
      obtain ⟨k, hk⟩ := isK_key h.1
      obtain ⟨ks, hks⟩ := ih h.2
      exact ⟨k :: ks, by simp only [keyKs, hk, hks]⟩
  | _ => simp [isT] at h
section
variable {κ : Type} [DecidableEq κ] {ky : D → Option κ} {G : Gx} {as : List Addr} {H : Hp}
theorem RepKV.get (he : ∀ {a k : D} {x y : κ}, ky a = some x → ky k = some y → eqv a k = decide (x = y)) {k : D} {y : κ} (hk : ky k = some y) : ∀ {kvs : List (D × D)} {kv : List (κ × V)}, RepKV ky G as H kvs kv →
    (kvGet kvs k = none ∧ valV kv y = none) ∨ ∃ d v, kvGet kvs k = some d ∧ valV kv y = some v ∧ Rep G as H d v
  | _, _, .nil => .inl ⟨rfl, rfl⟩
  | (a, b) :: kvs, (x, v) :: kv, .cons h t => by
    have e := he h.1 hk
    simp only [kvGet]
    by_cases hx : x = y
    · rw [decide_eq_true hx] at e
      rw [if_pos e]
      exact .inr ⟨b, v, rfl, valV_pos hx, h.2⟩
    · rw [decide_eq_false hx] at e
      rw [e, valV_neg hx]
      simpa using RepKV.get he hk t
theorem valV_none_any {kv : List (κ × V)} {y : κ} (h : valV kv y = none) : (kv.any fun q => decide (q.1 = y)) = false := by
  rw [valV_any, h]; rfl
theorem RepKV.any (he : ∀ {a k : D} {x y : κ}, ky a = some x → ky k = some y → eqv a k = decide (x = y)) {k : D} {y : κ} (hk : ky k = some y) : ∀ {kvs : List (D × D)} {kv : List (κ × V)}, RepKV ky G as H kvs kv →
    (kvs.any fun p => eqv p.1 k) = kv.any fun q => decide (q.1 = y)
  | _, _, .nil => rfl
  | (a, b) :: kvs, (x, v) :: kv, .cons h t => by
    rw [List.any_cons, List.any_cons, RepKV.any he hk t, he h.1 hk]
theorem RepKV.repl (he : ∀ {a k : D} {x y : κ}, ky a = some x → ky k = some y → eqv a k = decide (x = y)) {k d : D} {y : κ} {v : V} (hk : ky k = some y) (hv : Rep G as H d v) :
    ∀ {kvs : List (D × D)} {kv : List (κ × V)}, RepKV ky G as H kvs kv → RepKV ky G as H (kvs.map (fun p => if eqv p.1 k = true then (p.1, d) else p)) (kv.map (fun p => if p.1 = y then (p.1, v) else p))
  | _, _, .nil => .nil
  | (a, b) :: kvs, (x, w) :: kv, .cons h t => by
    have e := he h.1 hk
    rw [List.map_cons, List.map_cons]
    refine .cons ?_ (RepKV.repl he hk hv t)
    show ky (if eqv a k = true then (a, d) else (a, b)).1 = some (if x = y then (x, v) else (x, w)).1 ∧ Rep G as H (if eqv a k = true then (a, d) else (a, b)).2 (if x = y then (x, v) else (x, w)).2
    rw [show eqv a k = decide (x = y) from e]
    by_cases hx : x = y
    · rw [if_pos (decide_eq_true hx), if_pos hx]; exact ⟨h.1, hv⟩
    · rw [if_neg (by simpa using hx), if_neg hx]; exact h
theorem RepKV.snoc {k d : D} {y : κ} {v : V} (hk : ky k = some y) (hv : Rep G as H d v) : ∀ {kvs : List (D × D)} {kv : List (κ × V)}, RepKV ky G as H kvs kv → RepKV ky G as H (kvs ++ [(k, d)]) (kv ++ [(y, v)])
  | _, _, .nil => .cons ⟨hk, hv⟩ .nil
  | _ :: _, _ :: _, .cons h t => .cons h (RepKV.snoc hk hv t)
theorem RepKV.put (he : ∀ {a k : D} {x y : κ}, ky a = some x → ky k = some y → eqv a k = decide (x = y)) {k d : D} {y : κ} {v : V} (hk : ky k = some y) (hv : Rep G as H d v)
    {kvs : List (D × D)} {kv : List (κ × V)} (r : RepKV ky G as H kvs kv) : RepKV ky G as H (kvPut kvs k d) (putK kv y v) := by
  unfold kvPut putK
  rw [RepKV.any he hk r]
  split
  · exact RepKV.repl he hk hv r
  · exact RepKV.snoc hk hv r
theorem RepKV.length {kvs : List (D × D)} {kv : List (κ × V)} (h : RepKV ky G as H kvs kv) : kvs.length = kv.length := Paired.length h
end
section
variable {X : Cx} {M : Mx} {Wx : WX} {pins : List (Addr × Obj)} {s : Shared} {σ : L2.St} {H : Hp} {as : List Addr} {h : Hs}
theorem lkd.rd {lk : Bool} {a : Addr} {o : HO} (e : lkd lk H a o) : Rd H a o := by
  unfold lkd at e
  split at e
  · exact .inr e
  · exact .inl e
/-- SqT that is tracked -/
theorem Rep.keyT_ref {ds : List D} {ks : List Key} (e : keyKs ds = some ks) {vs : List V} (r : Reps (M.g X.K) as H ds vs) : vs = ks.map kV := by
  induction ds generalizing ks vs with
  | nil => simp only [keyKs, Option.some.injEq] at e; subst e; simp only [Reps] at r; subst r; rfl
  | cons d ds ih =>
    simp only [keyKs] at e
    split at e
    · rename_i k ks' e1 e2
      cases e
      simp only [Reps] at r
      obtain ⟨v, r', rfl, h1, h2⟩ := r
      rw [List.map_cons, ← ih e2 h2]
      congr 1
      cases d <;> simp only [keyK, Option.some.injEq, reduceCtorEq] at e1 <;> subst e1 <;> simp only [Rep] at h1 <;> subst h1 <;> rfl
    · cases e
theorem Rep.keyK_v {d : D} {k : Key} {v : V} (e : keyK d = some k) (r : Rep (M.g X.K) as H d v) : v = kV k := by
  cases d <;> simp only [keyK, Option.some.injEq, reduceCtorEq] at e <;> subst e <;> simp only [Rep] at r <;> subst r <;> rfl
end
end Rf
end

section
namespace Rf
open PySem PySem.Spec PyProof.Rows L2

/-- the module's constant tuples (lists) -/
def ConOk (M : Mx) (K : PySem.W.Frag) : Prop := ∀ (g : Nat) (ys : List D) (a : Addr), M.W.cons[g]? = some ys → M.ga g = some a →
  ∃ vs : List V, (∀ (H : Hp) (as : List Addr), SqT K H a vs ∧ Reps (M.g K) as H ys vs) ∧ ys.all flat = true
/-- the script, where it is an object of the module -/
def ScrOk (M : Mx) (K : PySem.W.Frag) : Prop := ∀ a : Addr, M.ga M.W.cons.length = some a → ∀ H : Hp, SqL K H a (M.W.scr.map V.int)
section
variable {X : Cx} {M : Mx} {Wx : WX} {pins : List (Addr × Obj)} {s : Shared} {σ : L2.St} {H : Hp}
theorem dget_ok {x : V} {k : D} {a : Addr} {as : List Addr} {lk t : Bool} {kvs : List (D × D)} (hob : ObR (M.g X.K) as H a (.dic lk t kvs)) (hk : okK t kvs k = true) (rk : Rep (M.g X.K) as H k x) :
    ∃ o, DGet H a x o ∧ ((kvGet kvs k = none ∧ o = none) ∨ ∃ d v, kvGet kvs k = some d ∧ o = some v ∧ Rep (M.g X.K) as H d v) := by
  cases t with
  | false =>
    obtain ⟨kv, h1, h2⟩ := hob
    simp only [okK, Bool.false_eq_true, if_false, Bool.and_eq_true] at hk
    obtain ⟨y, hy⟩ := isK_key hk.1
    refine ⟨valV kv y, .inl ⟨kv, y, h1.rd, Rep.keyK_v hy rk, rfl⟩, ?_⟩
    rcases RepKV.get (fun a b => eqv_key a b) hy h2 with ⟨e1, e2⟩ | ⟨d, v, e1, e2, r⟩
    · exact .inl ⟨e1, e2⟩
    · exact .inr ⟨d, v, e1, e2, r⟩
  | true =>
    obtain ⟨kv, h1, h2⟩ := hob
    simp only [okK, if_true, Bool.and_eq_true] at hk
    obtain ⟨y, hy⟩ := isT_key hk.1
    cases k with
    | tup ds =>
      simp only [Rep] at rk
      obtain ⟨b, vs, rfl, hb, hr⟩ := rk
      rw [Rep.keyT_ref hy hr] at hb
      refine ⟨valV kv y, .inr ⟨kv, y, b, h1.rd, rfl, hb, rfl⟩, ?_⟩
      rcases RepKV.get (fun a b => eqv_keyT a b) hy h2 with ⟨e1, e2⟩ | ⟨d, v, e1, e2, r⟩
      · exact .inl ⟨e1, e2⟩
      · exact .inr ⟨d, v, e1, e2, r⟩
    | _ => simp [keyT] at hy
theorem st1 (c : Char) : st [c] = ⟨#[c.toNat]⟩ := rfl
theorem st_mem (c : Char) (z : List Char) : decide (c.toNat ∈ (st z).cps.toList) = z.contains c := by
  rw [Bool.eq_iff_iff, decide_eq_true_eq, List.contains_iff_mem]
  show c.toNat ∈ z.map Char.toNat ↔ _
  constructor
  · intro h
    obtain ⟨d, hd, e⟩ := List.mem_map.mp h
    rw [← Char.toNat_inj.mp e]; exact hd
  · exact fun h => List.mem_map.mpr ⟨c, h, rfl⟩
theorem inD_ok {neg : Bool} {op : CmpOp} (hop : (neg, op) = (false, .In) ∨ (neg, op) = (true, .NotIn)) {x y : V} {dx dy : D} {v u : Value} {h : Hs} {as : List Addr} {Q : VK} {b : Bool} (hu : X.A.units + 200 < cLine) (hc : ConOk M X.K) (I : Inv X pins σ H s)
    (rx : RelV x v) (ry : RelV y u) (hi : HI (M.g X.K) h as H) (r1 : Rep (M.g X.K) as H dx x) (r2 : Rep (M.g X.K) as H dy y) (e : inD M.W.cons dx dy h = some b)
    (q : Q (.bl (if neg then !b else b)) H) : wpAny (model X.prog X.w) X.A (compareOp op v u) (EP X pins σ Q) X.xe s := by
  cases dy with
  | tup ys =>
    simp only [inD] at e
    split at e
    · rename_i hf
      simp only [Bool.and_eq_true] at hf
      cases e
      simp only [Rep] at r2
      obtain ⟨a, vs, rfl, h1, hr⟩ := r2
      cases ry
      exact in_seq_ok hop hu I rx hi r1 (.inr (SqT.of h1)) hr hf.1 hf.2 q
    · cases e
  | con g =>
    simp only [inD] at e
    split at e
    · rename_i ys e1
      split at e
      · rename_i hf
        simp only [Bool.and_eq_true] at hf
        cases e
        simp only [Rep] at r2
        obtain ⟨a, rfl, h1⟩ := r2
        cases ry
        obtain ⟨vs, hv, _⟩ := hc g ys a e1 h1
        exact in_seq_ok hop hu I rx hi r1 (.inr (hv H as).1) (hv H as).2 hf.1 hf.2 q
      · cases e
    · cases e
  | ob n =>
    simp only [inD] at e
    simp only [Rep] at r2
    obtain ⟨a, rfl, ea⟩ := r2
    cases ry
    split at e
    · rename_i ys e1
      split at e
      · rename_i hf
        simp only [Bool.and_eq_true] at hf
        cases e
        obtain ⟨vs, h1, hr⟩ := hi.ob n _ a e1 ea
        exact in_seq_ok hop hu I rx hi r1 (.inl (SqL.of h1)) hr hf.1 hf.2 q
      · cases e
    · rename_i lk t kvs e1
      split at e
      · rename_i hf
        cases e
        obtain ⟨o, g, ho⟩ := dget_ok (hi.ob n _ a e1 ea) hf r1
        have eo : o.isSome = (kvGet kvs dx).isSome := by
          rcases ho with ⟨e1, e2⟩ | ⟨d, v, e1, e2, _⟩ <;> rw [e1, e2] <;> rfl
        rcases hop with e | e <;> cases e
        · exact d_in (by omega) I g rx fun s' I' => ⟨.bl o.isSome, H, I', rfl, by rw [eo]; exact q⟩
        · exact d_notIn (by omega) I g rx fun s' I' => ⟨.bl (!o.isSome), H, I', rfl, by rw [eo]; exact q⟩
      · cases e
    · cases e
  | str z =>
    simp only [inD] at e
    split at e
    · rename_i c
      cases e
      simp only [Rep] at r1 r2
      subst r1 r2
      rw [← st_mem] at q
      rcases hop with e | e <;> cases e
      · exact op_in_sign pins s σ H _ _ v u Q I rx ry ⟨c.toNat, st z, rfl, rfl, q⟩
      · exact op_notIn_sign pins s σ H _ _ v u Q I rx ry ⟨c.toNat, st z, rfl, rfl, q⟩
    · cases e
  | _ => simp [inD] at e
/-- comparisons -/
def cpOf : Cp → CmpOp
  | .eq => .Eq | .ne => .NotEq | .lt => .Lt | .le => .LtE | .gt => .Gt | .ge => .GtE | .in_ => .In | .nin => .NotIn | .is_ => .Is | .isn => .IsNot
theorem hits_of {A : Around} {s : Shared} {ls : List (D × D)} {lv : List (Key × V)} {vb : List (Key × Value)} {as : List Addr} (hu : A.units + 100 < cLine) (I : Inv X pins σ H s) (hl : RepKV keyK (M.g X.K) as H ls lv) (fl : ls.all (fun p => flat p.2) = true) (rb : KV lv vb) :
    ∀ {ks : List (D × D)} {kv : List (Key × V)} {va : List (Key × Value)}, RepKV keyK (M.g X.K) as H ks kv → ks.all (fun p => flat p.2) = true → KV kv va → PySem.W.KeqHits A s vb va (ks.all (hitKV ls))
  | _, _, _, .nil, _, .nil => .nil
  | (k, d) :: ks, (x, v) :: kv, (x', u) :: va, .cons h1 t1, fk, .cons h2 t2 => by
    simp only [List.all_cons, Bool.and_eq_true] at fk
    obtain ⟨hk, hr⟩ := h1
    obtain ⟨rfl, ru⟩ := h2
    simp only at hk hr ru
    have ih := hits_of hu I hl fl rb t1 fk.2 t2
    rw [List.all_cons]
    rcases RepKV.get (fun ha hk => eqv_key ha hk) hk hl with ⟨e1, e2⟩ | ⟨w, wv, e1, e2, rw_⟩
    · have : hitKV ls (k, d) = false := by unfold hitKV; rw [e1]
      rw [this, Bool.false_and]
      refine .miss ?_
      have := rb.val x
      rw [e2] at this
      exact this.none_of
    · have : hitKV ls (k, d) = eqv d w := by unfold hitKV; rw [e1]
      rw [this]
      have rv := rb.val x
      rw [e2] at rv
      obtain ⟨y, hy, ry⟩ := rv.some_of
      refine .hit hy ?_ ih
      have fw : flat w = true := by
        have : ∀ {l : List (D × D)}, kvGet l k = some w → ∃ p ∈ l, p.2 = w := by
          intro l
          induction l with
          | nil => intro e; simp [kvGet] at e
          | cons p l ih =>
            obtain ⟨a, b⟩ := p
            intro e
            unfold kvGet at e
            split at e
            · cases e; exact ⟨_, List.mem_cons_self, rfl⟩
            · obtain ⟨q, hq, eq⟩ := ih e; exact ⟨q, List.mem_cons_of_mem _ hq, eq⟩
        obtain ⟨p, hp, rfl⟩ := this e1
        exact List.all_eq_true.mp fl p hp
      have flat_ : ∀ {d}, flat d = true → pur d = true ∧ dep d ≤ 64 := by
        intro d hd; simpa [flat] using hd
      obtain ⟨pd, dd⟩ := flat_ fk.1
      obtain ⟨pw, dw⟩ := flat_ fw
      obtain ⟨bs, rdx⟩ := Dp.reads I (toPy d) v u (Rep.dp (G := M.g X.K) pd hr) ru
      obtain ⟨cs, rdy⟩ := Dp.reads I (toPy w) wv y (Rep.dp (G := M.g X.K) pw rw_) ry
      rw [← eqv_toPy d w pd pw]
      refine SeqAt.eqAt_reads (toPy d) (toPy w) A s u y bs cs rdx rdy (toPy_lay _) (toPy_lay _) ?_
      rw [toPy_dep, toPy_dep]
      have := Nat.min_le_right (dep d) (dep w)
      omega
theorem cmpA_ok {o : Cp} {x y : V} {dx dy : D} {v u : Value} {h : Hs} {as : List Addr} {Q : VK} (hu : X.A.units + 200 < cLine) (hc : ConOk M X.K) (I : Inv X pins σ H s) (rx : RelV x v) (ry : RelV y u)
    (hi : HI (M.g X.K) h as H) (r1 : Rep (M.g X.K) as H dx x) (r2 : Rep (M.g X.K) as H dy y) (p : post (M.g X.K) Wx (Rep (M.g X.K)) as H σ (cmpA M.W.cons o dx dy h) Q) :
    wpAny (model X.prog X.w) X.A (compareOp (cpOf o) v u) (EP X pins σ Q) X.xe s := by
  have fin : ∀ {b : Bool}, post (M.g X.K) Wx (Rep (M.g X.K)) as H σ (.ok (.bl b) h) Q → Q (.bl b) H := fun {b} p => p _ as H Ext.refl hi (by simp only [Rep])
  have int2 : ∀ {g : Int → Int → Bool}, OpR X (compareOp (cpOf o)) (rI0 fun i j => .bl (g i j)) → (post (M.g X.K) Wx (Rep (M.g X.K)) as H σ (cmpI g dx dy h) Q) →
      wpAny (model X.prog X.w) X.A (compareOp (cpOf o) v u) (EP X pins σ Q) X.xe s := by
    intro g hop p
    cases dx <;> try exact p.elim
    cases dy <;> try exact p.elim
    simp only [Rep] at r1 r2
    subst r1 r2
    exact hop pins s σ H _ _ v u Q I rx ry ⟨_, _, rfl, rfl, fin p⟩
  cases o with
  | eq =>
    simp only [cmpA] at p
    split at p
    · rename_i q eq_
      obtain ⟨b, e, p⟩ := post.ofO p
      unfold dicB at eq_
      split at eq_
      · rename_i n m
        split at eq_
        · rename_i lk1 ks lk2 ls e1 e2
          cases eq_
          simp only [Rep] at r1 r2
          obtain ⟨a, rfl, ea⟩ := r1
          obtain ⟨a', rfl, eb⟩ := r2
          obtain ⟨kv, h1, rk⟩ := hi.ob n _ a e1 ea
          obtain ⟨lv, h2, rl⟩ := hi.ob m _ a' e2 eb
          obtain rfl : v = Value.ref a := rx
          obtain rfl : u = Value.ref a' := ry
          obtain ⟨_, ya, va, ra, da⟩ := dk_rd I.hok h1.rd
          obtain ⟨_, yb, vb, rb, db⟩ := dk_rd I.hok h2.rd
          unfold eqKV at e
          split at e
          · rename_i hf
            simp only [Bool.and_eq_true] at hf
            cases e
            have hl1 : va.length = ks.length := by rw [← ra.length, ← Paired.length rk]
            have hl2 : vb.length = ls.length := by rw [← rb.length, ← Paired.length rl]
            exact PySem.W.keq_eq (knd := mixKind X.prog X.w) (r := ks.all (hitKV ls)) ya yb da db (by omega) (fun _ => hits_of (by show X.A.units + 1 + 100 < _; omega) I rl hf.2 rb rk hf.1 ra) (fin_bl I (fin p) (by rw [hl1, hl2]))
          · cases e
        · cases eq_
      · cases eq_
    · simp only [cmpD] at p
      split at p
      · rename_i b e
        obtain ⟨d, d', h1, h2, h3, h4, h5⟩ := eqD_ok hi r1 r2 e
        exact op_eqD (by omega) pins s σ H x y v u Q I rx ry ⟨d, d', h1, h2, h3, h4, by rw [h5]; exact fin p⟩
      · exact p.elim
  | ne =>
    simp only [cmpA] at p
    split at p
    · rename_i q eq_
      obtain ⟨b, e, p⟩ := post.ofO p
      unfold dicB at eq_
      split at eq_
      · rename_i n m
        split at eq_
        · rename_i lk1 ks lk2 ls e1 e2
          cases eq_
          simp only [Rep] at r1 r2
          obtain ⟨a, rfl, ea⟩ := r1
          obtain ⟨a', rfl, eb⟩ := r2
          obtain ⟨kv, h1, rk⟩ := hi.ob n _ a e1 ea
          obtain ⟨lv, h2, rl⟩ := hi.ob m _ a' e2 eb
          obtain rfl : v = Value.ref a := rx
          obtain rfl : u = Value.ref a' := ry
          obtain ⟨_, ya, va, ra, da⟩ := dk_rd I.hok h1.rd
          obtain ⟨_, yb, vb, rb, db⟩ := dk_rd I.hok h2.rd
          unfold eqKV at e
          split at e
          · rename_i hf
            simp only [Bool.and_eq_true] at hf
            cases e
            have hl1 : va.length = ks.length := by rw [← ra.length, ← Paired.length rk]
            have hl2 : vb.length = ls.length := by rw [← rb.length, ← Paired.length rl]
            exact PySem.W.keq_ne (knd := mixKind X.prog X.w) (r := ks.all (hitKV ls)) ya yb da db (by omega) (fun _ => hits_of (by show X.A.units + 1 + 100 < _; omega) I rl hf.2 rb rk hf.1 ra) (fin_bl I (fin p) (by rw [hl1, hl2]))
          · cases e
        · cases eq_
      · cases eq_
    · simp only [cmpD] at p
      split at p
      · rename_i b e
        obtain ⟨d, d', h1, h2, h3, h4, h5⟩ := eqD_ok hi r1 r2 e
        exact op_neD (by omega) pins s σ H x y v u Q I rx ry ⟨d, d', h1, h2, h3, h4, by rw [h5]; exact fin p⟩
      · exact p.elim
  | lt => exact int2 op_lt p
  | le => exact int2 op_le p
  | gt => exact int2 op_gt p
  | ge => exact int2 op_ge p
  | in_ =>
    obtain ⟨b, e, p⟩ := post.ofO p
    exact inD_ok (neg := false) (.inl rfl) hu hc I rx ry hi r1 r2 e (fin p)
  | nin =>
    obtain ⟨b, e, p⟩ := post.ofO p
    exact inD_ok (neg := true) (.inr rfl) hu hc I rx ry hi r1 r2 e (fin p)
  | is_ =>
    simp only [cmpA] at p
    cases dy <;> try exact p.elim
    case bl k =>
      cases dx <;> try exact p.elim
      simp only [Rep] at r1 r2
      subst r1 r2
      exact op_is_bl pins s σ H _ _ v u Q I rx ry ⟨_, _, rfl, rfl, fin p⟩
    simp only [Rep] at r2
    subst r2
    refine op_isN pins s σ H x _ v u Q I rx ry ⟨rfl, ?_⟩
    cases dx <;> simp only [Rep] at r1
    · subst r1; exact fin p
    all_goals first
      | (subst r1; exact fin p)
      | (obtain ⟨a, _, rfl, _⟩ := r1; exact fin p)
      | (obtain ⟨a, rfl, _⟩ := r1; exact fin p)
  | isn =>
    simp only [cmpA] at p
    cases dy <;> try exact p.elim
    case bl k =>
      cases dx <;> try exact p.elim
      simp only [Rep] at r1 r2
      subst r1 r2
      exact op_isnot_bl pins s σ H _ _ v u Q I rx ry ⟨_, _, rfl, rfl, fin p⟩
    simp only [Rep] at r2
    subst r2
    refine op_notN pins s σ H x _ v u Q I rx ry ⟨rfl, ?_⟩
    cases dx <;> simp only [Rep] at r1
    · subst r1; exact fin p
    all_goals first
      | (subst r1; exact fin p)
      | (obtain ⟨a, _, rfl, _⟩ := r1; exact fin p)
      | (obtain ⟨a, rfl, _⟩ := r1; exact fin p)
end
end Rf
end

section
namespace Rf
open PySem PySem.Spec PyProof.Rows L2

theorem ofString_inj {a b : String} (e : Str.ofString a = Str.ofString b) : a = b := by
  rw [Str.ofString_eq_toList, Str.ofString_eq_toList] at e
  have e1 := congrArg (fun z => z.cps.toList) e
  exact String.toList_inj.mp ((List.map_inj_right (fun a b h => Char.toNat_inj.mp h)).mp e1)
theorem ofString_st (a : String) : Str.ofString a = st a.toList := Str.ofString_eq_toList a
theorem st_len (z : List Char) : (st z).length = z.length := by simp [st, Str.length]
section
variable {G : Gx} {as : List Addr} {H : Hp}
theorem RepF.lookup (f : String) : ∀ {fs : List (String × D)} {vs : List (Str × V)}, RepF G as H fs vs → (fs.lookup f = none ∧ vs.lookup (Str.ofString f) = none) ∨ ∃ d v, fs.lookup f = some d ∧ vs.lookup (Str.ofString f) = some v ∧ Rep G as H d v
  | _, _, .nil => .inl ⟨rfl, rfl⟩
  | (g, d) :: fs, (q, v) :: vs, .cons h t => by
    obtain ⟨e, hr⟩ := h
    simp only at e hr
    subst e
    rw [List.lookup_cons, List.lookup_cons]
    by_cases hf : f = g
    · subst hf
      rw [beq_self_eq_true, beq_self_eq_true]
      exact .inr ⟨d, v, rfl, rfl, hr⟩
    · rw [beq_eq_false_iff_ne.mpr hf, beq_eq_false_iff_ne.mpr (fun e => hf (ofString_inj e))]
      exact RepF.lookup f t
theorem RepF.put {f : String} {d : D} {v : V} (hv : Rep G as H d v) : ∀ {fs : List (String × D)} {vs : List (Str × V)}, RepF G as H fs vs → RepF G as H (fput f d fs) (putF (Str.ofString f) v vs)
  | _, _, .nil => .cons ⟨rfl, hv⟩ .nil
  | (g, d') :: fs, (q, v') :: vs, .cons h t => by
    obtain ⟨e, hr⟩ := h
    simp only at e hr
    subst e
    simp only [fput, putF]
    by_cases hf : g = f
    · subst hf
      rw [if_pos rfl, if_pos rfl]
      exact .cons ⟨rfl, hv⟩ t
    · rw [if_neg hf, if_neg (fun e => hf (ofString_inj e))]
      exact .cons ⟨rfl, hr⟩ (RepF.put hv t)
theorem RepF.length {fs : List (String × D)} {vs : List (Str × V)} (h : RepF G as H fs vs) : fs.length = vs.length := Paired.length h
theorem Reps.at {ds : List D} {vs : List V} {i : Int} {d : D} (r : Reps G as H ds vs) (e : atI ds i = some d) : ∃ v, atI vs i = some v ∧ Rep G as H d v := by
  unfold atI at e ⊢
  rw [← r.length]
  cases h : ixN ds.length i with
  | none => rw [h] at e; simp at e
  | some j =>
    rw [h] at e
    simp only [Option.bind_some] at e ⊢
    exact r.get e
theorem Reps.cut {ds : List D} {vs : List V} (lo hi : Option Int) (r : Reps G as H ds vs) : Reps G as H (cutD ds lo hi) (cutV vs lo hi) := by
  unfold cutD cutV
  rw [← r.length]
  exact Reps.take _ (Reps.drop _ r)
theorem Reps.int_map {ns : List Int} : Reps G as H (ns.map D.int) (ns.map V.int) := Reps.ints
end
section
variable {X : Cx} {M : Mx} {Wx : WX} {pins : List (Addr × Obj)} {s : Shared} {σ : L2.St} {H : Hp}
/-- what is at an address: a list of ours or the script -/
theorem lst_of {h : Hs} {as : List Addr} (hi : HI (M.g X.K) h as H) {n : Nat} {a : Addr} {xs : List D} (e : h[n]? = some (.lst xs) ∨ ∃ ns : List Int, h[n]? = some (.scr ns) ∧ xs = ns.map D.int) (ea : as[n]? = some a) : ∃ vs, SqL X.K H a vs ∧ Reps (M.g X.K) as H xs vs := by
  rcases e with e | ⟨ns, e, rfl⟩
  · obtain ⟨vs, h1, h2⟩ := hi.ob n _ a e ea
    exact ⟨vs, SqL.of h1, h2⟩
  · obtain ⟨o, h1⟩ := hi.ob n _ a e ea
    exact ⟨_, .inl (.inr ⟨o, h1⟩), Reps.ints⟩
/-- x[y], not of a dict -/
def rIx8 (M : Mx) (K : PySem.W.Frag) (Wx : WX) (σ : L2.St) : R2 := fun x y H Q => ∃ dx dy h as, HI (M.g K) h as H ∧ Rep (M.g K) as H dx x ∧ Rep (M.g K) as H dy y ∧ (∀ n lk t kvs, dx = .ob n → h[n]? ≠ some (.dic lk t kvs)) ∧ post (M.g K) Wx (Rep (M.g K)) as H σ (ixD M.W.cons dx dy h) Q
theorem ix8 (hc : ConOk M X.K) (σ' : L2.St) : IxR X (rIx8 M X.K Wx σ') := by
  intro value slice pins s σ H x y v u Q I rx ry h hsub
  obtain ⟨dx, dy, h, as, hi, r1, r2, nd, p⟩ := h
  have seq_ : ∀ {ds : List D} {a : Addr} {i : Int} {vs : List V}, x = .ref a → dy = .int i → (SqL X.K H a vs ∨ SqT X.K H a vs) → Reps (M.g X.K) as H ds vs → post (M.g X.K) Wx (Rep (M.g X.K)) as H σ' (ofO (atI ds i) h) Q →
      wpAny (model X.prog X.w) X.A (subscriptTail value slice v u) (EP X pins σ Q) X.xe s := by
    intro ds a i vs e1 e2 hq hr p2
    subst e1 e2
    simp only [Rep] at r2
    subst r2
    cases e : atI ds i with
    | none => rw [e] at p2; exact p2.elim
    | some d =>
      rw [e] at p2
      obtain ⟨w, e3, rw_⟩ := hr.at e
      have q : Q w H := p2 w as H Ext.refl hi rw_
      rcases hq with hq | hq
      · exact ix_list value slice pins s σ H _ _ v u Q I rx ry ⟨a, vs, i, w, rfl, rfl, hq, e3, q⟩ hsub
      · exact ix_tup value slice pins s σ H _ _ v u Q I rx ry ⟨a, vs, i, w, rfl, rfl, hq, e3, q⟩ hsub
  cases dx with
  | tup xs =>
    cases dy with
    | int i =>
      simp only [Rep] at r1
      obtain ⟨a, vs, rfl, h1, hr⟩ := r1
      exact seq_ rfl rfl (.inr (SqT.of h1)) hr p
    | _ => exact p.elim
  | con g =>
    cases dy with
    | int i =>
      simp only [ixD] at p
      simp only [Rep] at r1
      obtain ⟨a, rfl, h1⟩ := r1
      split at p
      · rename_i ys e1
        obtain ⟨vs, hv, _⟩ := hc g ys a e1 h1
        exact seq_ rfl rfl (.inr (hv H as).1) (hv H as).2 p
      · exact p.elim
    | _ => exact p.elim
  | str z =>
    cases dy with
    | int i =>
      simp only [Rep] at r1 r2
      subst r1 r2
      simp only [ixD] at p
      split at p
      · rename_i hl
        cases e : atI z i with
        | none => rw [e] at p; exact p.elim
        | some c =>
          rw [e] at p
          have q : Q (.str (st [c])) H := p _ as H Ext.refl hi (by simp only [Rep])
          refine ix_str value slice pins s σ H _ _ v u Q I rx ry ⟨st z, i, c.toNat, rfl, rfl, by rw [st_len]; exact hl, ?_, q⟩ hsub
          show atI (z.map Char.toNat) i = some c.toNat
          unfold atI at e ⊢
          rw [List.length_map]
          cases h : ixN z.length i with
          | none => rw [h] at e; simp at e
          | some j =>
            rw [h] at e
            simp only [Option.bind_some, List.getElem?_map] at e ⊢
            rw [e]; rfl
      · exact p.elim
    | _ => exact p.elim
  | ob n =>
    simp only [Rep] at r1
    obtain ⟨a, rfl, ea⟩ := r1
    simp only [ixD] at p
    split at p
    · rename_i xs i e1
      obtain ⟨vs, h1, h2⟩ := lst_of hi (.inl e1) ea
      exact seq_ rfl rfl (.inl h1) h2 p
    · rename_i ns i e1
      obtain ⟨vs, h1, h2⟩ := lst_of hi (.inr ⟨ns, e1, rfl⟩) ea
      have e : (atI ns i).map D.int = atI (ns.map D.int) i := by
        unfold atI
        rw [List.length_map]
        cases ixN ns.length i with
        | none => rfl
        | some j => simp
      rw [e] at p
      exact seq_ rfl rfl (.inl h1) h2 p
    · rename_i lk t kvs e1
      exact absurd e1 (nd n lk t kvs rfl)
    · exact p.elim
  | _ => exact p.elim
/-- slices -/
def rSl8 (M : Mx) (K : PySem.W.Frag) (Wx : WX) (σ : L2.St) : V → Option Int → Option Int → Hp → VK → Prop := fun x lo hi H Q => ∃ dx h as, HI (M.g K) h as H ∧ Rep (M.g K) as H dx x ∧ post (M.g K) Wx (Rep (M.g K)) as H σ (slD dx lo hi h) Q
theorem sl8 (σ' : L2.St) : SlR X (rSl8 M X.K Wx σ') := by
  intro pins s σ H x v vl vu lo hi sl Q I rx hsl pl pu hh
  obtain ⟨dx, h, as, hI, r1, p⟩ := hh
  cases dx with
  | tup xs =>
    simp only [Rep] at r1
    obtain ⟨a, vs, rfl, h1, hr⟩ := r1
    refine sl_tupA pins s σ H _ v vl vu lo hi sl Q I rx hsl pl pu ⟨a, vs, rfl, SqT.of h1, fun e => ?_, fun e q hq => ?_⟩
    · refine p _ as H Ext.refl hI ?_
      simp only [Rep]
      have : cutD xs lo hi = xs := by
        unfold cutD
        rw [hr.length, e.1, e.2, Nat.sub_zero, List.drop_zero, ← hr.length, List.take_length]
      rw [this]
      exact ⟨a, vs, rfl, h1, hr⟩
    · refine p _ as _ (ext_tup hq) (hI.other hq) ?_
      simp only [Rep]
      exact ⟨q, _, rfl, upd_same, (hr.cut lo hi).mono (ext_tup hq)⟩
  | str z =>
    simp only [Rep] at r1
    subst r1
    simp only [slD] at p
    split at p
    · rename_i hz
      refine sl_str pins s σ H _ v vl vu lo hi sl Q I rx hsl pl pu ⟨st z, rfl, by rw [st_len]; exact hz, ?_⟩
      refine p _ as H Ext.refl hI ?_
      simp only [Rep]
      congr 1
      unfold cutS cutD st
      simp [Str.length, List.map_take, List.map_drop]
    · exact p.elim
  | ob n =>
    simp only [Rep] at r1
    obtain ⟨a, rfl, ea⟩ := r1
    have go : ∀ xs : List D, (h[n]? = some (.lst xs) ∨ ∃ ns : List Int, h[n]? = some (.scr ns) ∧ xs = ns.map D.int) → post (M.g X.K) Wx (Rep (M.g X.K)) as H σ' (.ok (.ob h.length) (h ++ [.lst (cutD xs lo hi)])) Q →
        ∃ T id, typeLookup (.type T) "__getitem__" = pure (some (.builtin id)) ∧ s.TypeIs v T ∧ wpAny (model X.prog X.w) X.A (getItem v (.ref sl)) (EP X pins σ Q) X.xe s := by
      intro xs e p
      obtain ⟨vs, h1, h2⟩ := lst_of hI e ea
      refine sl_list pins s σ H _ v vl vu lo hi sl Q I rx hsl pl pu ⟨a, vs, rfl, h1, fun q hq => ?_⟩
      refine p _ (as ++ [q]) _ (ext_new hq) (hI.new hq ⟨_, upd_same, (h2.cut lo hi).mono (ext_new hq)⟩) ?_
      simp only [Rep]
      exact ⟨q, rfl, by rw [← hI.len]; simp⟩
    simp only [slD] at p
    split at p
    · rename_i xs e1
      exact go xs (.inl e1) p
    · rename_i ns e1
      refine go _ (.inr ⟨ns, e1, rfl⟩) ?_
      have : cutD (ns.map D.int) lo hi = (cutD ns lo hi).map D.int := by
        unfold cutD; simp [List.map_take, List.map_drop]
      rw [this]; exact p
    · exact p.elim
  | _ => exact p.elim
/-- o[i] = v, of a list or a dict -/
theorem putD_ok {x y z : V} {dx dy dz : D} {ov iv zv : Value} {h h' : Hs} {as : List Addr} {Q : Unit → Shared → Prop} (hu : X.A.units + 200 < cLine) (I : Inv X pins σ H s) (rx : RelV x ov) (ry : RelV y iv) (rz : RelV z zv)
    (hi : HI (M.g X.K) h as H) (r1 : Rep (M.g X.K) as H dx x) (r2 : Rep (M.g X.K) as H dy y) (r3 : Rep (M.g X.K) as H dz z) (e : putD dx dy dz h = some h')
    (q : ∀ H' s', Ext as H as H' → HI (M.g X.K) h' as H' → Inv X pins σ H' s' → Q () s') : wpAny (model X.prog X.w) X.A (setItem ov iv zv) Q X.xe s := by
  cases dx with
  | ob n =>
    simp only [Rep] at r1
    obtain ⟨a, rfl, ea⟩ := r1
    cases rx
    simp only [putD] at e
    split at e
    · rename_i xs k e1
      obtain ⟨j, e2, e3⟩ := Option.map_eq_some_iff.mp e
      subst e3
      obtain ⟨vs, h1, hr⟩ := hi.ob n _ a e1 ea
      simp only [Rep] at r2
      subst r2
      refine wpAny_mono (set_list pins s σ H (.ref a) (.int k) z (Value.ref a) iv zv (fun H' => H' = upd H a (.lst (vs.set j z))) I rfl ry rz ⟨a, vs, k, j, rfl, rfl, h1, by rw [← hr.length]; exact e2, rfl⟩) ?_ (fun _ _ x => x)
      rintro _ s' ⟨H', I', rfl⟩
      have ex := ext_set (o := HO.lst (vs.set j z)) ea h1 (fun _ => by intro z; cases z) (fun _ _ => by intro z; cases z)
      exact q _ s' ex (hi.set ea h1 (fun _ => by intro z; cases z) (fun _ _ => by intro z; cases z) ⟨_, upd_same, (Reps.set r3 j hr).mono ex⟩) I'
    · rename_i dy2 _ _ t kvs e1
      split at e
      · rename_i hk
        simp only [Bool.and_eq_true, decide_eq_true_eq] at hk
        cases e
        cases t with
        | false =>
          obtain ⟨kv, h1, h2⟩ := hi.ob n _ a e1 ea
          simp only [lkd, Bool.false_eq_true, if_false] at h1
          have hk1 := hk.1
          simp only [okK, Bool.false_eq_true, if_false, Bool.and_eq_true] at hk1
          obtain ⟨ky, hy⟩ := isK_key hk1.1
          rw [Rep.keyK_v hy r2] at ry
          refine d_setItem (by omega) I (DPut.k (k := ky) (v := z) h1 (by rw [← h2.length]; exact hk.2)) ry rz fun s' I' => ?_
          have ex := ext_set (o := HO.dK (putK kv ky z)) ea h1 (fun _ => by intro z; cases z) (fun _ _ => by intro z; cases z)
          refine q _ s' ex (hi.set ea h1 (fun _ => by intro z; cases z) (fun _ _ => by intro z; cases z) ⟨_, ?_, (RepKV.put (fun a b => eqv_key a b) hy r3 h2).mono ex⟩) I'
          simp only [lkd, Bool.false_eq_true, if_false]; exact upd_same
        | true =>
          obtain ⟨kv, h1, h2⟩ := hi.ob n _ a e1 ea
          simp only [lkd, Bool.false_eq_true, if_false] at h1
          have hk1 := hk.1
          simp only [okK, if_true, Bool.and_eq_true] at hk1
          obtain ⟨ky, hy⟩ := isT_key hk1.1
          cases dy2 with
          | tup ds =>
            simp only [Rep] at r2
            obtain ⟨b, ws, rfl, hb, hr⟩ := r2
            rw [Rep.keyT_ref hy hr] at hb
            refine d_setItem (by omega) I (DPut.t (k := ky) (v := z) h1 hb (by rw [← h2.length]; exact hk.2)) ry rz fun s' I' => ?_
            have ex := ext_set (o := HO.dT (putK kv ky z)) ea h1 (fun _ => by intro z; cases z) (fun _ _ => by intro z; cases z)
            refine q _ s' ex (hi.set ea h1 (fun _ => by intro z; cases z) (fun _ _ => by intro z; cases z) ⟨_, ?_, (RepKV.put (fun a b => eqv_keyT a b) hy r3 h2).mono ex⟩) I'
            simp only [lkd, Bool.false_eq_true, if_false]; exact upd_same
          | _ => simp [keyT] at hy
      · cases e
    · cases e
  | _ => simp [putD] at e
end
end Rf
end

section
namespace Rf
open PySem PySem.Spec PyProof.Rows L2

theorem Reps.cons_inv {G : Gx} {as H} {d : D} {ds : List D} {vs : List V} (h : Reps G as H (d :: ds) vs) : ∃ v r, vs = v :: r ∧ Rep G as H d v ∧ Reps G as H ds r := by
  simpa only [Reps] using h
theorem Reps.nil_inv {G : Gx} {as H} {vs : List V} (h : Reps G as H [] vs) : vs = [] := by
  simpa only [Reps] using h
section
variable {X : Cx} {M : Mx} {Wx : WX} {pins : List (Addr × Obj)} {s : Shared} {σ : L2.St} {H : Hp}
def rBl (M : Mx) (K : PySem.W.Frag) (Wx : WX) (σ : L2.St) (b : Bf) : List V → Hp → VK → Prop := fun xs H Q => ∃ ds h as, HI (M.g K) h as H ∧ Reps (M.g K) as H ds xs ∧ post (M.g K) Wx (Rep (M.g K)) as H σ (bltD b ds h) Q
theorem one_of {σ' : L2.St} {b : Bf} {xs : List V} {H : Hp} {Q : VK} (h : rBl M X.K Wx σ' b xs H Q) : ∃ ds h as, HI (M.g X.K) h as H ∧ Reps (M.g X.K) as H ds xs ∧ post (M.g X.K) Wx (Rep (M.g X.K)) as H σ' (bltD b ds h) Q := h
theorem bl_len (σ' : L2.St) : CallR X (.builtin "len") (rBl M X.K Wx σ' .len) := by
  intro pins s σ H xs us Q I r hh
  obtain ⟨ds, h, as, hi, rs, p⟩ := hh
  match ds with
  | [] => exact p.elim
  | d0 :: _ :: _ => cases d0 <;> exact p.elim
  | [d] =>
    obtain ⟨v, _, rfl, r1, rn⟩ := rs.cons_inv
    obtain rfl := rn.nil_inv
    cases d with
    | tup ys =>
      simp only [Rep] at r1
      obtain ⟨a, vs, rfl, h1, hr⟩ := r1
      refine call_len_seq pins s σ H _ us Q I r ⟨a, vs, rfl, .inr (SqT.of h1), ?_⟩
      rw [← hr.length]
      exact p _ as H Ext.refl hi (by simp only [Rep])
    | str z =>
      simp only [Rep] at r1
      subst r1
      simp only [bltD] at p
      split at p
      · rename_i hz
        refine call_len_str pins s σ H _ us Q I r ⟨st z, rfl, by rw [st_len]; exact hz, ?_⟩
        rw [st_len]
        exact p _ as H Ext.refl hi (by simp only [Rep])
      · exact p.elim
    | ob n =>
      simp only [Rep] at r1
      obtain ⟨a, rfl, ea⟩ := r1
      simp only [bltD] at p
      split at p
      · rename_i ys e1
        obtain ⟨vs, h1, h2⟩ := lst_of hi (.inl e1) ea
        refine call_len_seq pins s σ H _ us Q I r ⟨a, vs, rfl, .inl h1, ?_⟩
        rw [← h2.length]
        exact p _ as H Ext.refl hi (by simp only [Rep])
      · rename_i ys e1
        obtain ⟨vs, h1, h2⟩ := lst_of hi (.inr ⟨ys, e1, rfl⟩) ea
        refine call_len_seq pins s σ H _ us Q I r ⟨a, vs, rfl, .inl h1, ?_⟩
        rw [← h2.length, List.length_map]
        exact p _ as H Ext.refl hi (by simp only [Rep])
      · rename_i lk kvs e1
        obtain ⟨kv, h1, h2⟩ := hi.ob n _ a e1 ea
        obtain ⟨u, rfl, ru⟩ := Vals.one r
        cases ru
        refine d_len I h1.rd fun t s' I' => ⟨.int kv.length, H, I', ⟨t, rfl⟩, ?_⟩
        rw [← h2.length]
        exact p _ as H Ext.refl hi (by simp only [Rep])
      · exact p.elim
    | _ => exact p.elim
theorem bl_abs (σ' : L2.St) : CallR X (.builtin "abs") (rBl M X.K Wx σ' .abs) := by
  intro pins s σ H xs us Q I r hh
  obtain ⟨ds, h, as, hi, rs, p⟩ := hh
  match ds with
  | [] => exact p.elim
  | d0 :: _ :: _ => cases d0 <;> exact p.elim
  | [d] =>
    obtain ⟨v, _, rfl, r1, rn⟩ := rs.cons_inv
    obtain rfl := rn.nil_inv
    cases d with
    | int i =>
      simp only [Rep] at r1; subst r1
      exact call_abs pins s σ H _ us Q I r ⟨i, rfl, p _ as H Ext.refl hi (by simp only [Rep])⟩
    | _ => exact p.elim
theorem bl_int (σ' : L2.St) : CallR X (.type "int") (rBl M X.K Wx σ' .int) := by
  intro pins s σ H xs us Q I r hh
  obtain ⟨ds, h, as, hi, rs, p⟩ := hh
  match ds with
  | [] => exact p.elim
  | d0 :: _ :: _ => cases d0 <;> exact p.elim
  | [d] =>
    obtain ⟨v, _, rfl, r1, rn⟩ := rs.cons_inv
    obtain rfl := rn.nil_inv
    cases d with
    | int i =>
      simp only [Rep] at r1; subst r1
      exact call_int1 pins s σ H _ us Q I r (.inl ⟨i, rfl, p _ as H Ext.refl hi (by simp only [Rep])⟩)
    | bl i =>
      simp only [Rep] at r1; subst r1
      exact call_int1 pins s σ H _ us Q I r (.inr ⟨i, rfl, p _ as H Ext.refl hi (by simp only [Rep])⟩)
    | str z =>
      simp only [bltD] at p
      split at p
      · rename_i k e
        split at p
        · rename_i hl
          simp only [Rep] at r1; subst r1
          exact call_int_str pins s σ H _ us Q I r ⟨_, k, rfl, e, by simpa [st, Str.length] using hl, p _ as H Ext.refl hi (by simp only [Rep])⟩
        · exact p.elim
      · exact p.elim
    | _ => exact p.elim
theorem bl_str (σ' : L2.St) : CallR X (.type "str") (rBl M X.K Wx σ' .str) := by
  intro pins s σ H xs us Q I r hh
  obtain ⟨ds, h, as, hi, rs, p⟩ := hh
  match ds with
  | [] => exact p.elim
  | d0 :: _ :: _ => cases d0 <;> exact p.elim
  | [d] =>
    obtain ⟨v, _, rfl, r1, rn⟩ := rs.cons_inv
    obtain rfl := rn.nil_inv
    cases d with
    | int i =>
      simp only [bltD] at p
      split at p
      · rename_i hl
        simp only [Rep] at r1; subst r1
        refine call_str_int pins s σ H _ us Q I r ⟨i, rfl, hl, p _ as H Ext.refl hi ?_⟩
        simp only [Rep]
        exact congrArg V.str (ofString_st _)
      · exact p.elim
    | str z =>
      simp only [bltD] at p
      simp only [Rep] at r1; subst r1
      exact SkE.call_str_str pins s σ H _ us Q I r ⟨_, rfl, p _ as H Ext.refl hi (by simp only [Rep])⟩
    | _ => exact p.elim
theorem bl_tuple (σ' : L2.St) : CallR X (.type "tuple") (rBl M X.K Wx σ' .tuple) := by
  intro pins s σ H xs us Q I r hh
  obtain ⟨ds, h, as, hi, rs, p⟩ := hh
  match ds with
  | [] => exact p.elim
  | d0 :: _ :: _ => cases d0 <;> exact p.elim
  | [d] =>
    obtain ⟨v, _, rfl, r1, rn⟩ := rs.cons_inv
    obtain rfl := rn.nil_inv
    cases d with
    | tup ys =>
      have r1' := r1
      simp only [Rep] at r1
      obtain ⟨a, vs, rfl, h1, hr⟩ := r1
      exact call_tuple_of pins s σ H _ us Q I r ⟨a, vs, rfl, .inr ⟨SqT.of h1, p _ as H Ext.refl hi r1'⟩⟩
    | ob n =>
      simp only [Rep] at r1
      obtain ⟨a, rfl, ea⟩ := r1
      simp only [bltD] at p
      split at p
      · rename_i ys e1
        obtain ⟨vs, h1, h2⟩ := lst_of hi (.inl e1) ea
        refine call_tuple_of pins s σ H _ us Q I r ⟨a, vs, rfl, .inl ⟨h1, fun q hq => ?_⟩⟩
        refine p _ as _ (ext_tup hq) (hi.other hq) ?_
        simp only [Rep]
        exact ⟨q, vs, rfl, upd_same, h2.mono (ext_tup hq)⟩
      · exact p.elim
    | _ => exact p.elim
theorem bl_list (hc : X.calm = true) (σ' : L2.St) : CallR X (.type "list") (rBl M X.K Wx σ' .list) := by
  intro pins s σ H xs us Q I r hh
  obtain ⟨ds, h, as, hi, rs, p⟩ := hh
  match ds with
  | [] => exact p.elim
  | d0 :: _ :: _ => cases d0 <;> exact p.elim
  | [d] =>
    obtain ⟨v, _, rfl, r1, rn⟩ := rs.cons_inv
    obtain rfl := rn.nil_inv
    have go : ∀ {a : Addr} {vs : List V} {ys : List D}, v = .ref a → (SqL X.K H a vs ∨ SqT X.K H a vs) → Reps (M.g X.K) as H ys vs → post (M.g X.K) Wx (Rep (M.g X.K)) as H σ' (.ok (.ob h.length) (h ++ [.lst ys])) Q → wpAny (model X.prog X.w) X.A (call (.type "list") us) (EP X pins σ Q) X.xe s := by
      intro a vs ys e hq hr p
      subst e
      refine call_list_of pins s σ H _ us Q I r ⟨a, vs, rfl, hq, fun q hq => ?_⟩
      refine p _ (as ++ [q]) _ (ext_new hq) (hi.new hq ⟨_, upd_same, hr.mono (ext_new hq)⟩) ?_
      simp only [Rep]
      exact ⟨q, rfl, by rw [← hi.len]; simp⟩
    cases d with
    | tup ys =>
      simp only [Rep] at r1
      obtain ⟨a, vs, rfl, h1, hr⟩ := r1
      exact go rfl (.inr (SqT.of h1)) hr p
    | ob n =>
      simp only [Rep] at r1
      obtain ⟨a, rfl, ea⟩ := r1
      simp only [bltD] at p
      split at p
      · rename_i ys e1
        obtain ⟨vs, h1, h2⟩ := lst_of hi (.inl e1) ea
        exact go rfl (.inl h1) h2 p
      · rename_i ys e1
        obtain ⟨vs, h1, h2⟩ := lst_of hi (.inr ⟨ys, e1, rfl⟩) ea
        exact go rfl (.inl h1) h2 p
      · rename_i kvs e1
        obtain ⟨kv, h1, h2⟩ := hi.ob n _ a e1 ea
        simp only [lkd, Bool.false_eq_true, if_false] at h1
        refine call_list_dK hc pins s σ H _ us Q I r ⟨a, kv, rfl, h1, fun q hq => ?_⟩
        refine p _ (as ++ [q]) _ (ext_new hq) (hi.new hq ⟨_, upd_same, ?_⟩) ?_
        · have : ∀ {kvs : List (D × D)} {kv : List (Key × V)}, RepKV keyK (M.g X.K) as H kvs kv → Reps (M.g X.K) (as ++ [q]) (upd H q (.lst (kv.map fun p => kV p.1))) (kvs.map (·.1)) (kv.map fun p => kV p.1) := by
            intro kvs kv hh
            generalize hH : upd H q _ = H2
            clear hH
            induction hh with
            | nil => simp [Reps]
            | cons a b ih =>
              rename_i p1 p2 _ _
              simp only [List.map_cons, Reps]
              refine ⟨_, _, rfl, ?_, ih⟩
              obtain ⟨k1, _⟩ := p1
              obtain ⟨k2, _⟩ := p2
              obtain ⟨e, _⟩ := a
              simp only at e ⊢
              cases k1 <;> simp only [keyK, Option.some.injEq, reduceCtorEq] at e <;> subst e <;> simp only [Rep, kV]
          exact this h2
        · simp only [Rep]
          exact ⟨q, rfl, by rw [← hi.len]; simp⟩
      · exact p.elim
    | _ => exact p.elim
theorem bl_dict (σ' : L2.St) : CallR X (.type "dict") (rBl M X.K Wx σ' .dict) := by
  intro pins s σ H xs us Q I r hh
  obtain ⟨ds, h, as, hi, rs, p⟩ := hh
  match ds with
  | [] => exact p.elim
  | d0 :: _ :: _ => cases d0 <;> exact p.elim
  | [d] =>
    obtain ⟨v, _, rfl, r1, rn⟩ := rs.cons_inv
    obtain rfl := rn.nil_inv
    cases d with
    | ob n =>
      simp only [Rep] at r1
      obtain ⟨a, rfl, ea⟩ := r1
      simp only [bltD] at p
      split at p
      · rename_i lk kvs e1
        obtain ⟨kv, h1, h2⟩ := hi.ob n _ a e1 ea
        refine call_dictD pins s σ H _ us Q I r ⟨a, kv, rfl, h1.rd, fun q hq => ?_⟩
        refine p _ (as ++ [q]) _ (ext_new hq) (hi.new hq ⟨kv, ?_, ?_⟩) ?_
        · simp only [lkd, Bool.false_eq_true, if_false]; exact upd_same
        · exact Paired.mapP h2 fun _ _ z => ⟨z.1, z.2.mono (ext_new hq)⟩
        · simp only [Rep]
          exact ⟨q, rfl, by rw [← hi.len]; simp⟩
      · exact p.elim
    | _ => exact p.elim
theorem bl_mm (hc : X.calm = true) (σ' : L2.St) : CallR X (.builtin "min") (rBl M X.K Wx σ' .min2) ∧ CallR X (.builtin "max") (rBl M X.K Wx σ' .max2) := by
  constructor
  all_goals
    intro pins s σ H xs us Q I r hh
    obtain ⟨ds, h, as, hi, rs, p⟩ := hh
    match ds with
    | [] => exact p.elim
    | [d] => cases d <;> exact p.elim
    | _ :: _ :: _ :: _ => rename_i a b _ _; cases a <;> cases b <;> exact p.elim
    | [d, d'] =>
      obtain ⟨v, _, rfl, r1, rn⟩ := rs.cons_inv
      obtain ⟨v', _, rfl, r2, rn⟩ := rn.cons_inv
      obtain rfl := rn.nil_inv
      cases d <;> cases d' <;> try exact p.elim
      simp only [Rep] at r1 r2
      subst r1 r2
      first
        | exact call_min2 hc pins s σ H _ us Q I r ⟨_, _, rfl, p _ as H Ext.refl hi (by simp only [Rep])⟩
        | exact call_max2 hc pins s σ H _ us Q I r ⟨_, _, rfl, p _ as H Ext.refl hi (by simp only [Rep])⟩
/-- isinstance with a built-in class -/
def tyOfB : Bf → Option String
  | .isList => some "list" | .isTup => some "tuple" | .isStr => some "str" | .isBool => some "bool" | .isInt => some "int" | _ => none
def rIs (M : Mx) (K : PySem.W.Frag) (Wx : WX) (σ : L2.St) (b : Bf) (T : String) : List V → Hp → VK → Prop := fun xs H Q => ∃ x d h as, xs = [x, .ty T] ∧ HI (M.g K) h as H ∧ Rep (M.g K) as H d x ∧ post (M.g K) Wx (Rep (M.g K)) as H σ (bltD b [d] h) Q
theorem bl_is {b : Bf} {T : String} (hb : tyOfB b = some T) (σ' : L2.St) : CallR X (.builtin "isinstance") (rIs M X.K Wx σ' b T) := by
  intro pins s σ H xs us Q I r hh
  obtain ⟨x, d, h, as, rfl, hi, r1, p⟩ := hh
  have go : ∀ {t : String} {k : Bool}, TyOf X.K H x (.type t) → kitB t T = some k → post (M.g X.K) Wx (Rep (M.g X.K)) as H σ' (.ok (.bl k) h) Q → wpAny (model X.prog X.w) X.A (call (.builtin "isinstance") us) (EP X pins σ Q) X.xe s := by
    intro t k ty hk p
    exact call_isi pins s σ H _ us Q I r ⟨x, .ty T, .type t, .type T, k, rfl, .ty T, .base ty, kit_ty hk, p _ as H Ext.refl hi (by simp only [Rep])⟩
  have ob : ∀ {n : Nat} {l k : Bool}, kitB "list" T = some l → kitB "dict" T = some k → d = .ob n → post (M.g X.K) Wx (Rep (M.g X.K)) as H σ' (isObB h n l k) Q → wpAny (model X.prog X.w) X.A (call (.builtin "isinstance") us) (EP X pins σ Q) X.xe s := by
    intro n l k h1 h2 e pp
    subst e
    simp only [Rep] at r1
    obtain ⟨a, rfl, ea⟩ := r1
    simp only [isObB] at pp
    split at pp
    · rename_i e1
      obtain ⟨vs, q1, _⟩ := hi.ob n _ a e1 ea
      exact go (TyOf.lst q1) h1 pp
    · rename_i t kvs e1
      cases t with
      | false =>
        obtain ⟨kv, q1, _⟩ := hi.ob n _ a e1 ea
        simp only [lkd, Bool.false_eq_true, if_false] at q1
        exact go (TyOf.dK q1) h2 pp
      | true =>
        obtain ⟨kv, q1, _⟩ := hi.ob n _ a e1 ea
        simp only [lkd, Bool.false_eq_true, if_false] at q1
        exact go (TyOf.dT q1) h2 pp
    · exact pp.elim
  cases b <;> simp only [tyOfB, Option.some.injEq, reduceCtorEq] at hb <;> subst hb <;> cases d <;> first | exact p.elim | exact ob (by decide +kernel) (by decide +kernel) rfl p | (simp only [Rep] at r1)
  all_goals first
    | (subst r1; exact go TyOf.non (by decide +kernel) p)
    | (subst r1; exact go (TyOf.bl _) (by decide +kernel) p)
    | (subst r1; exact go (TyOf.int _) (by decide +kernel) p)
    | (subst r1; exact go (TyOf.str _) (by decide +kernel) p)
    | (obtain ⟨a, vs, rfl, h1, hr⟩ := r1; exact go (TyOf.tup h1) (by decide +kernel) p)
end
end Rf
end

section
namespace Rf
open PySem PySem.Spec PyProof.Rows L2

/-! ## repr -/
theorem plC_range {c : Char} (h : plC c = true) : 32 ≤ c.toNat ∧ c.toNat < 127 ∧ c.toNat ≠ 39 ∧ c.toNat ≠ 92 := by
  simp only [plC, Bool.and_eq_true, decide_eq_true_eq] at h
  exact ⟨h.1.1.1, h.1.1.2, h.1.2, h.2⟩
theorem reprChar_all : (List.range 127).all (fun c => decide (c < 32) || c == 39 || c == 92 || decide (Builtin.Str.reprChar 39 c = [c])) = true := by decide +kernel
theorem reprChar_pl {c : Char} (h : plC c = true) : Builtin.Str.reprChar 39 c.toNat = [c.toNat] := by
  obtain ⟨h1, h2, h3, h4⟩ := plC_range h
  have := List.all_eq_true.mp reprChar_all c.toNat (List.mem_range.mpr h2)
  simp only [Bool.or_eq_true, decide_eq_true_eq, beq_iff_eq] at this
  rcases this with ((q | q) | q) | q
  · omega
  · exact absurd q h3
  · exact absurd q h4
  · exact q
theorem reprFold : ∀ (s : List Char) (acc : Array Nat), s.all plC = true → (s.map Char.toNat).foldl (fun out c => out ++ (Builtin.Str.reprChar 39 c).toArray) acc = acc ++ (s.map Char.toNat).toArray
  | [], acc, _ => by simp
  | c :: s, acc, h => by
    simp only [List.all_cons, Bool.and_eq_true] at h
    rw [List.map_cons, List.foldl_cons, reprChar_pl h.1, reprFold s _ h.2]
    simp
theorem repr_str {s : List Char} (h : s.all plC = true) : reprText (st s) = st ('\'' :: s ++ ['\'']) := by
  have hq : reprQuote (st s) = 39 := by
    unfold reprQuote
    have : (st s).cps.contains 39 = false := by
      rw [Bool.eq_false_iff]
      intro hc
      rw [Array.contains_iff_mem] at hc
      unfold st at hc
      rw [List.mem_toArray, List.mem_map] at hc
      obtain ⟨c, hc, e⟩ := hc
      exact (plC_range (List.all_eq_true.mp h c hc)).2.2.1 e
    rw [this]; rfl
  unfold reprText
  rw [hq]
  have e : ((st s).cps.foldl (fun out c => out ++ (Builtin.Str.reprChar 39 c).toArray) #[39]) = #[39] ++ (s.map Char.toNat).toArray := by
    unfold st
    rw [← Array.foldl_toList]
    exact reprFold s _ h
  rw [e]
  unfold st
  simp
theorem st_app (a b : List Char) : st a ++ st b = st (a ++ b) := by
  show (⟨(st a).cps ++ (st b).cps⟩ : Str) = _
  simp [st]
theorem join_st : ∀ ts : List (List Char), Str.join ", " (ts.map st) = st (joinC ts)
  | [] => by show (Str.empty : Str) = _; rfl
  | [x] => by simp only [List.map_cons, List.map_nil, joinC]; rfl
  | x :: y :: r => by
    have ih := join_st (y :: r)
    simp only [List.map_cons] at ih ⊢
    show (st x ++ (", " : Str) ++ Str.join ", " (st y :: r.map st) : Str) = _
    rw [ih]
    have e : ((", " : String) : Str) = st [',', ' '] := by decide +kernel
    rw [e, st_app, st_app]
    simp [joinC]
mutual
theorem shown_st : ∀ d : D, rpOk d = true → (toPy d).shown = st (rp d)
  | .non, _ => by simp only [toPy, PyData.shown, rp]; decide +kernel
  | .bl true, _ => by simp only [toPy, PyData.shown, rp]; decide +kernel
  | .bl false, _ => by simp only [toPy, PyData.shown, rp]; decide +kernel
  | .int i, _ => by simp only [toPy, PyData.shown, rp]; exact ofString_st _
  | .str s, h => by
    simp only [rpOk] at h
    simp only [toPy, PyData.shown, rp]
    exact repr_str h
  | .tup xs, h => by
    simp only [rpOk] at h
    simp only [toPy, PyData.shown, showns_st xs h]
    unfold tupleText
    have e0 : ((")" : String) : Str) = st [')'] := by decide +kernel
    have e1 : ((",)" : String) : Str) = st [',', ')'] := by decide +kernel
    have e2 : (("(" : String) : Str) = st ['('] := by decide +kernel
    rw [join_st, e2]
    match xs with
    | [] => simp only [rp, rps, List.map_nil]; rw [st_app, if_neg (by decide), e0, st_app]; rfl
    | [x] => simp only [rp, rps, List.map_cons, List.map_nil]; rw [st_app, if_pos (show ([st (rp x)].length == 1) = true from rfl), e1, st_app]; rfl
    | x :: y :: r =>
      simp only [rp, rps, List.map_cons]
      rw [st_app, if_neg (by simp), e0, st_app]; rfl
  | .ob _, h => by simp [rpOk] at h
  | .fn _, h => by simp [rpOk] at h
  | .con _, h => by simp [rpOk] at h
theorem showns_st : ∀ ds : List D, rpsOk ds = true → PyData.shownAll (toPys ds) = (rps ds).map st
  | [], _ => by simp [toPys, PyData.shownAll, rps]
  | d :: ds, h => by
    simp only [rpsOk, Bool.and_eq_true] at h
    simp only [toPys, PyData.shownAll, rps, List.map_cons, shown_st d h.1, showns_st ds h.2]
end
mutual
theorem rpOk_ok : ∀ d : D, rpOk d = true → pur d = true ∧ (toPy d).showable = true ∧ (toPy d).hasDict = false
  | .non, _ => by simp [pur, toPy, PyData.showable, PyData.hasDict]
  | .bl _, _ => by simp [pur, toPy, PyData.showable, PyData.hasDict]
  | .int i, h => by simp only [rpOk] at h; simp [pur, toPy, PyData.showable, PyData.hasDict, of_decide_eq_true h]
  | .str _, _ => by simp [pur, toPy, PyData.showable, PyData.hasDict]
  | .tup xs, h => by
    simp only [rpOk] at h
    simp only [pur, toPy, PyData.showable, PyData.hasDict]
    exact rpsOk_ok xs h
  | .ob _, h => by simp [rpOk] at h
  | .fn _, h => by simp [rpOk] at h
  | .con _, h => by simp [rpOk] at h
theorem rpsOk_ok : ∀ ds : List D, rpsOk ds = true → purs ds = true ∧ PyData.showableAll (toPys ds) = true ∧ PyData.hasDictAll (toPys ds) = false
  | [], _ => by simp [purs, toPys, PyData.showableAll, PyData.hasDictAll]
  | d :: ds, h => by
    simp only [rpsOk, Bool.and_eq_true] at h
    obtain ⟨a1, a2, a3⟩ := rpOk_ok d h.1
    obtain ⟨b1, b2, b3⟩ := rpsOk_ok ds h.2
    simp [purs, toPys, PyData.showableAll, PyData.hasDictAll, a1, a2, a3, b1, b2, b3]
end
section
variable {X : Cx} {M : Mx} {Wx : WX}
theorem bl_repr (hg : X.A.guards = some []) (hu : X.A.units + 200 < cLine) (σ' : L2.St) : CallR X (.builtin "repr") (rBl M X.K Wx σ' .repr) := by
  intro pins s σ H xs us Q I r hh
  obtain ⟨ds, h, as, hi, rs, p⟩ := hh
  simp only [bltD] at p
  match ds with
  | [] => exact p.elim
  | d :: _ :: _ => cases d <;> exact p.elim
  | [d] =>
    obtain ⟨v, _, rfl, r1, rn⟩ := rs.cons_inv
    obtain rfl := rn.nil_inv
    cases d <;> try (exact p.elim)
    rename_i xs
    obtain ⟨d, hd⟩ : ∃ d, d = D.tup xs := ⟨_, rfl⟩
    simp only [← hd] at p r1
    split at p
    · rename_i hc
      simp only [Bool.and_eq_true, decide_eq_true_eq] at hc
      obtain ⟨⟨h1, h2⟩, h3⟩ := hc
      obtain ⟨k1, k2, k3⟩ := rpOk_ok d h1
      obtain ⟨u, rfl, ru⟩ := Vals.one r
      have dp := Rep.dp (G := M.g X.K) k1 r1
      obtain ⟨bs, rd⟩ := dp.reads I _ _ _ ru
      have sh := shown_st d h1
      have fin : ∀ (h' : Heap) (t tk : Tok), (∀ b o, s.heap.get? b = some o → h'.get? b = some o) → EP X pins σ Q (.str (toPy d).shown t) { s with heap := h', toks := tk } := by
        intro h' t tk hk
        refine ⟨.str (st (rp d)), H, I.kept hk, ⟨t, by rw [sh]⟩, ?_⟩
        exact p _ as H Ext.refl hi (by simp only [Rep])
      have hz : (toPy d).shown.length ≤ sizeLine := by rw [sh, st_len]; exact h3
      rw [hd] at r1
      simp only [Rep] at r1
      obtain ⟨a, vs, rfl, _, _⟩ := r1
      obtain rfl : u = Value.ref a := ru
      exact repr_of_reads' rd k2 (PyData.noDict_hsm k3) hg (by rw [toPy_dep]; omega) (fun _ _ e => e) fin hz
    · exact p.elim
end
end Rf
end

section
namespace Rf
open PySem PySem.Spec PyProof.Rows L2

/-! ## the program's text against the terms -/
structure Ck where
  N : List Str
  fnm : List Str
  cnm : List Str
  gnm : List Str
  nw : List Nat
  snm : List (Str × List Char) := []
  hot : Bool := false
  exn : Option Nat := none
  xc : List Nat := []
  xr : List Nat := []
  inm : List (Str × Int) := []
def kindB (sc : Scope) (x : Str) (k : NameKind) : Bool := match sc.names.lookup x with
  | some k' => decide (k' = k)
  | none => false
def visB (sc : Scope) (x : Str) : Bool := kindB sc x .local || kindB sc x .cell || kindB sc x .free
def locB (sc : Scope) (x : Str) : Bool := kindB sc x .local || kindB sc x .cell
def glB (sc : Scope) (x : Str) : Bool := kindB sc x .globalImplicit
def okN (x : Str) : Bool := !(x == ("__debug__" : Str)) && !(x == ("__classdict__" : Str)) && !(x == ("__name__" : Str)) && !(x == ("super" : Str))
def isC (l : List Str) (i : Nat) (x : Str) : Bool := match l[i]? with | some y => decide (y = x) | none => false
theorem isC_ok {l : List Str} {i : Nat} {x : Str} (h : isC l i x = true) : l[i]? = some x := by
  unfold isC at h
  split at h
  · rename_i y e; rw [e, of_decide_eq_true h]
  · cases h
theorem kindB_ok {sc : Scope} {x : Str} {k : NameKind} (h : kindB sc x k = true) : sc.names.lookup x = some k := by
  unfold kindB at h
  split at h
  · rename_i k' e; rw [e, of_decide_eq_true h]
  · cases h
def opB : Op → Operator → Bool
  | .add, .Add => true | .sub, .Sub => true | .mul, .Mult => true | .fdiv, .FloorDiv => true | .mod, .Mod => true | _, _ => false
def cpB : Cp → CmpOp → Bool
  | .eq, .Eq => true | .ne, .NotEq => true | .lt, .Lt => true | .le, .LtE => true | .gt, .Gt => true | .ge, .GtE => true | .in_, .In => true | .nin, .NotIn => true | .is_, .Is => true | .isn, .IsNot => true | _, _ => false
theorem opB_ok {o : Op} {op : Operator} (h : opB o op = true) : (o, op) ∈ [(Op.add, Operator.Add), (.sub, .Sub), (.mul, .Mult), (.fdiv, .FloorDiv), (.mod, .Mod)] := by
  cases o <;> cases op <;> simp [opB] at h ⊢
theorem cpB_ok {o : Cp} {op : CmpOp} (h : cpB o op = true) : op = cpOf o := by
  cases o <;> cases op <;> simp [cpB, cpOf] at h ⊢
def cstB : D → Const → Bool
  | .non, .none => true
  | .bl b, .bool c => b == c
  | .int i, .int j => decide (i = j)
  | .str s, .str z => decide (st s = z)
  | _, _ => false
def isSet : Expr → Bool
  | .Set _ _ _ => true
  | _ => false
def isSlice : Expr → Bool
  | .Slice _ _ _ _ => true
  | _ => false
def isStar : Expr → Bool
  | .Starred _ _ => true
  | _ => false
/-- not a call without arguments of a bare name -/
def notBare : Expr → Bool
  | .Call (.Name _ _) [] [] _ => false
  | _ => true
def bfName : Bf → Option (Str × Bool)
  | .repr => some (Str.ofString "repr", true) | .len => some (Str.ofString "len", true) | .abs => some (Str.ofString "abs", true) | .min2 => some (Str.ofString "min", true) | .max2 => some (Str.ofString "max", true)
  | .int => some (Str.ofString "int", false) | .str => some (Str.ofString "str", false) | .list => some (Str.ofString "list", false) | .tuple => some (Str.ofString "tuple", false) | .dict => some (Str.ofString "dict", false)
  | _ => none
def nmB (C : Ck) (sc : Scope) (i : Nat) : Expr → Bool
  | .Name x _ => isC C.N i x && locB sc x
  | _ => false
def tgB (C : Ck) (sc : Scope) : Tg → Expr → Bool
  | .nm i, e => nmB C sc i e
  | .tp is, .Tuple es _ _ => is.length == es.length && ((is.zip es).all fun p => nmB C sc p.1 p.2) && !C.hot
  | _, _ => false
def tgIx : Tg → List Nat
  | .nm i => [i]
  | .tp is => is
def ownP (C : Ck) (own : List Nat) : List (Str × Nat) := own.map fun i => (C.N.getD i Str.empty, i)
def backOf : Expr → Option Expr
  | .Subscript x (.Slice none none (some (.UnaryOp .USub (.Constant (.int 1) _ _) _)) _) _ => some x
  | _ => none
theorem backOf_ok {e x : Expr} (h : backOf e = some x) : ∃ k p1 p2 p3 pos, e = .Subscript x (.Slice none none (some (.UnaryOp .USub (.Constant (.int 1) k p1) p2)) p3) pos := by
  unfold backOf at h
  split at h
  · cases h; exact ⟨_, _, _, _, _, rfl⟩
  · cases h
mutual
def chkE (C : Ck) : E → Scope → Expr → Bool
  | .var i, sc, .Name x _ => isC C.N i x && visB sc x && okN x
  | .cst d, _, .Constant c _ _ => cstB d c
  | .glb g, sc, .Name x _ => isC C.gnm g x && glB sc x && okN x
  | .gst g s, sc, .Name x _ => decide (C.snm[g]? = some (x, s)) && glB sc x && okN x
  | .gni g i, sc, .Name x _ => decide (C.inm[g]? = some (x, i)) && glB sc x && okN x
  | .fnv f, sc, .Name x _ => !C.hot && (isC C.fnm f x && glB sc x && okN x)
  | .bin o a b, sc, .BinOp l op r _ => opB o op && chkE C a sc l && chkE C b sc r
  | .neg a, sc, .UnaryOp .USub e _ => chkE C a sc e
  | .cmp o a b, sc, .Compare l [op] [r] _ => cpB o op && chkE C a sc l && chkE C b sc r && !isSet r
  | .chn o o' a b c, sc, .Compare l [op, op'] [m, r] _ => cpB o op && cpB o' op' && chkE C a sc l && chkE C b sc m && chkE C c sc r && !isSet r
  | .and a b, sc, .BoolOp .And (x :: y :: r) p => chkE C a sc x && (match r with | [] => chkE C b sc y | _ => chkE C b sc (.BoolOp .And (y :: r) p))
  | .or a b, sc, .BoolOp .Or (x :: y :: r) p => chkE C a sc x && (match r with | [] => chkE C b sc y | _ => chkE C b sc (.BoolOp .Or (y :: r) p))
  | .not a, sc, .UnaryOp .Not e _ => chkE C a sc e
  | .ife c a b, sc, .IfExp t x y _ => chkE C c sc t && chkE C a sc x && chkE C b sc y
  | .tup es, sc, .Tuple xs _ _ => chkEs C es sc xs
  | .lst es, sc, .List xs _ => chkEs C es sc xs
  | .dic _ ks vs, sc, .Dict ks' vs' _ => ks.isEmpty && vs.isEmpty && ks'.isEmpty && vs'.isEmpty
  | .ix a i, sc, .Subscript x y _ => chkE C a sc x && chkE C i sc y && !isSlice y
  | .slc a lo hi, sc, .Subscript x (.Slice l h none _) _ => chkE C a sc x && (match l with | none => lo.isEmpty | some l => chkEs C lo sc [l]) && (match h with | none => hi.isEmpty | some h => chkEs C hi sc [h])
  | .back a, sc, e => (match backOf e with | some x => chkE C a sc x | none => false)
  | .exf i f, sc, .Attribute (.Name x _) g _ => C.hot && decide (C.exn = some i) && isC C.N i x && visB sc x && okN x && decide (Str.ofString f = g)
  | .fld a f, sc, .Attribute x g _ => !C.hot && (chkE C a sc x && decide (Str.ofString f = g) && notBare x)
  | .new c es, sc, .Call (.Name x _) xs [] _ => !C.hot && (decide (c ∈ C.nw) && isC C.cnm c x && glB sc x && okN x && chkEs C es sc xs)
  | .cav i es, sc, .Call (.Name x _) xs [] _ => !C.hot && (isC C.N i x && visB sc x && okN x && chkEs C es sc xs)
  | .cal f es, sc, .Call (.Name x _) xs [] _ => !C.hot && (isC C.fnm f x && glB sc x && okN x && chkEs C es sc xs)
  | .blt b es, sc, .Call (.Name x _) xs [] _ => !C.hot && (glB sc x && okN x && (match bfName b with
    | some (n, _) => decide (x = n) && chkEs C es sc xs && !es.isEmpty
    | none => (match tyOfB b, xs with
      | some T, [a, .Name y _] => decide (x = Str.ofString "isinstance") && decide (y = Str.ofString T) && glB sc y && okN y && chkEs C es sc [a]
      | _, _ => false)))
  | .met o m es, sc, .Call (.Attribute x g ap) xs [] cp => !C.hot && (chkE C o sc x && decide (Str.ofString m = g) && notBare x && (ap.endLine == cp.line) && chkEs C es sc xs && decide (xs.length < 20))
  | .lc own tg k its cd el, sc, .ListComp elt [⟨tg', iter, ifs, asy⟩] scope _ => !C.hot && decide (asy = 0) && blkC C.N sc scope (ownP C own) && tgB C scope tg tg' && (tgIx tg).all (fun i => decide (i ∈ own)) && chkEs C cd scope ifs && decide (cd.length ≤ 1) && chkE C el scope elt &&
      !isSet iter && (match k with
      | .seq => chkEs C its sc [iter] && decide (its.length = 1)
      | .rng1 => (match iter with | .Call (.Name x _) [a] [] _ => decide (x = Str.ofString "range") && glB sc x && chkEs C its sc [a] | _ => false)
      | .rng2 => (match iter with | .Call (.Name x _) [a, b] [] _ => decide (x = Str.ofString "range") && glB sc x && chkEs C its sc [a, b] | _ => false)
      | _ => false)
  | _, _, _ => false
def chkEs (C : Ck) : List E → Scope → List Expr → Bool
  | [], _, [] => true
  | e :: es, sc, x :: xs => chkE C e sc x && !isStar x && chkEs C es sc xs
  | _, _, _ => false
end

/-! ## where a body runs -/
def spI (M : Mx) (K : PySem.W.Frag) (cf : CF) (np f : Nat) : Sp := fun vs H Q E => vs.length = np ∧ ∃ ds h as, HI (M.g K) h as H ∧ Reps (M.g K) as H ds vs ∧ post (M.g K) (fun c d _ H => E c d H) (Rep (M.g K)) as H [] (cf f ds h) Q
/-- the def at a is the f-th function -/
def FnB (P : Program) (w : World) (K : PySem.W.Frag) (mg : Str → Option Value) (base : Heap) (M : Mx) (n : Nat) (cf : CF) (a : Addr) (f : Nat) : Prop :=
  ∃ fd ps np, Binds K fd ps [] ∧ ps.length = np ∧ FnG P w K mg base (L2.CX P w) (2 * n + 1) a fd ps (spI M K cf np f) ∧ ∀ ds h, cf f ds h ≠ .no → ds.length = np
def FnsOk (P : Program) (w : World) (K : PySem.W.Frag) (mg : Str → Option Value) (base : Heap) (M : Mx) (C : Ck) (n : Nat) (cf : CF) : Prop :=
  (∀ f x, C.fnm[f]? = some x → ∃ a, mg x = some (.ref a) ∧ M.fa f = some a) ∧ ∀ f a, M.fa f = some a → PySem.W.keepIn K (.ref a) = true ∧ FnB P w K mg base M n cf a f
def bltNames : List Str := ["len", "abs", "min", "max", "int", "list", "tuple", "isinstance", "str", "bool", "range", "dict", "repr", "sorted", "sum"].map Str.ofString
/-- the classes -/
def ClsOk (P : Program) (w : World) (K : PySem.W.Frag) (mg : Str → Option Value) (base : Heap) (M : Mx) (C : Ck) (n : Nat) (cf : CF) : Prop :=
  ∀ c ci, M.W.cls[c]? = some ci → ∀ Ca, M.ca c = some Ca → Cls K Ca ∧ (∀ f, f ∈ ci.flds → NoAttr K Ca (Str.ofString f)) ∧
    (∀ m f, ci.meths.lookup m = some f → ∃ a, Meth K Ca (Str.ofString m) a ∧ FnB P w K mg base M n cf a f)
def MksOk (P : Program) (w : World) (K : PySem.W.Frag) (mg : Str → Option Value) (base : Heap) (M : Mx) (C : Ck) (n : Nat) (cf : CF) : Prop :=
  ∀ c x, c ∈ C.nw → C.cnm[c]? = some x → ∃ ci f Ca a, M.W.cls[c]? = some ci ∧ ci.ini = some f ∧ M.ca c = some Ca ∧ mg x = some (.ref Ca) ∧ Mk K Ca a ∧ FnB P w K mg base M n cf a f
/-- an exception class, its own __init__ -/
def spX (Ca : Addr) (flds : List String) : Sp := fun vs H Q _ => ∃ a ws, vs = .ref a :: ws ∧ ws.length = flds.length ∧ H a = some (exo a Ca none) ∧
  ∀ d H2, H d = none → d ≠ a → H2 a = some (exo a Ca (some d)) → H2 d = some (exd d ((flds.map Str.ofString).zip ws).reverse) → (∀ b, b ≠ a → b ≠ d → H2 b = H b) → Q .non H2
def ExcsOk (P : Program) (w : World) (K : PySem.W.Frag) (mg : Str → Option Value) (base : Heap) (M : Mx) (C : Ck) : Prop :=
  ∀ c x, c ∈ C.xr → C.cnm[c]? = some x → ∃ Ca fI fd ps, M.ca c = some Ca ∧ mg x = some (.ref Ca) ∧ OexC K Ca ∧ PySem.W.findIn K (.ref Ca) "__init__" = some (some (.ref fI)) ∧ PySem.W.typeIn K (.ref fI) = some (.type "function") ∧
    FnOk P w K mg base CX0 1 fI fd ps (spX Ca (M.W.exf c)) ∧ Binds K fd ps []
/-- what holds of the classes of exceptions, for those who catch -/
structure ExmOk (K : PySem.W.Frag) (mg : Str → Option Value) (M : Mx) (C : Ck) : Prop where
  nm : ∀ k x, k ∈ C.xc → C.cnm[k]? = some x → ∃ Ka, M.ca k = some Ka ∧ mg x = some (.ref Ka)
  exm : ∀ c k Ca Ka, 0 < (M.W.exf c).length → k ∈ C.xc → M.ca c = some Ca → M.ca k = some Ka → PySem.W.exmOne K (.ref Ca) (.ref Ka) = some (M.W.isa c k)
  xf : ∀ c Ca, 0 < (M.W.exf c).length → M.ca c = some Ca → XfC K Ca ∧ ∀ f ∈ M.W.exf c, PySem.W.findIn K (.ref Ca) (Str.ofString f) = some none
/-- where nothing is handled -/
structure Cool (X : Cx) (M : Mx) (C : Ck) (n : Nat) (cf : CF) : Prop where
  calm : X.calm = true
  room : Room (2 * n + 2) X.A
  nex : M.ex = none
  nxd : M.xd = none
  ncx : M.cx = none
  fns : FnsOk X.prog X.w X.K X.mg X.base M C n cf
  cls : ClsOk X.prog X.w X.K X.mg X.base M C n cf
  mks : MksOk X.prog X.w X.K X.mg X.base M C n cf
  exs : ExcsOk X.prog X.w X.K X.mg X.base M C
  exm : ExmOk X.K X.mg M C
structure Cok (X : Cx) (M : Mx) (C : Ck) (sc : Scope) (n : Nat) (Wx : WX) (cf : CF) : Prop where
  cool : C.hot = false → Cool X M C n cf
  exr : ∀ i x f p pos, C.hot = true → C.exn = some i → C.N[i]? = some x → Vis X.env.scope x → okN x = true → PE X (.Attribute (.Name x p) (Str.ofString f) pos) (tE (M.g X.K) Wx (evalE M.W cf M.cx (.exf i f)))
  N : X.N = C.N
  nd : X.N.Nodup
  vis : ∀ x, visB sc x = true → Vis X.env.scope x
  loc : ∀ x, locB sc x = true → Loc X.env.scope x ∧ (X.fn x = true ∨ X.env.scope.names.lookup x = some .local)
  gl : ∀ x, glB sc x = true → Gl X x
  scn : ∀ (x : Str) k, k ≠ .free → sc.names.lookup x = some k → X.env.scope.names.lookup x = some k
  scf : ∀ (x : Str), sc.names.lookup x = some .free → X.env.scope.names.lookup x = some .free ∨ X.env.scope.names.lookup x = some .cell
  hu : X.A.units + 200 < cLine
  gd : X.A.guards = some []
  tk : Takes X Wx
  pas : PassesOwn (model X.prog X.w) X.A X.env X.xe
  con : ConOk M X.K
  scr : ScrOk M X.K
  glb : ∀ g x, C.gnm[g]? = some x → ∃ a, X.mg x = some (.ref a) ∧ M.ga g = some a
  bl : ∀ x ∈ bltNames, X.mg x = none
  gs : ∀ (g : Nat) (x : Str) (s : List Char), C.snm[g]? = some (x, s) → ∃ t, X.mg x = some (.str (st s) t)
  gi : ∀ (g : Nat) (x : Str) (i : Int), C.inm[g]? = some (x, i) → ∃ t, X.mg x = some (.int i t)
section
variable {X : Cx} {M : Mx} {C : Ck} {sc : Scope} {n : Nat} {Wx : WX} {cf : CF}
/-- weaker reading -/
theorem pe_imp {e : Expr} {t t' : TE} (h : PE X e t) (i : ∀ σ H Q, t' σ H Q → t σ H Q) : PE X e t' := ⟨fun pins s σ H Q I q => h.run pins s σ H Q I (i σ H Q q)⟩
theorem pt_imp {e : Expr} {t t' : TT} (h : PT X e t) (i : ∀ σ H Q, t' σ H Q → t σ H Q) : PT X e t' := ⟨fun pins s σ H Q I q => h.run pins s σ H Q I (i σ H Q q)⟩
theorem pw_imp {e : Expr} {t t' : TT} (h : PW X e t) (i : ∀ σ H Q, t' σ H Q → t σ H Q) : PW X e t' := ⟨fun wh pins s σ H Q I q => h.run wh pins s σ H Q I (i σ H Q q)⟩
theorem pa_imp {e : List Expr} {t t' : TA} (h : PA X e t) (i : ∀ σ H Q, t' σ H Q → t σ H Q) : PA X e t' := ⟨fun pos pins s σ H Q I q => h.run pos pins s σ H Q I (i σ H Q q)⟩
/-- one part, then the rest -/
theorem then1 {G : Gx} {ev : Sg → Hs → R D} {β : Type} {γ : Type} {Rl : List Addr → Hp → γ → β → Prop} {f : D → Hs → R γ} {σI : Sg} {h : Hs} {as : List Addr} {σ : L2.St} {H : Hp} {Q : β → Hp → Prop}
    (sl : SL G σI as H σ) (hi : HI G h as H) (p : post G Wx Rl as H σ ((ev σI h).bind f) Q) :
    tE G Wx ev σ H fun x H1 => ∃ d h1 as1, ev σI h = .ok d h1 ∧ Ext as H as1 H1 ∧ SL G σI as1 H1 σ ∧ HI G h1 as1 H1 ∧ Rep G as1 H1 d x ∧ post G Wx Rl as1 H1 σ (f d h1) Q :=
  ⟨σI, h, as, sl, hi, (post.bind (Rl := Rep G) p).imp fun v H1 ⟨d, h1, as1, e, x, i, r, q⟩ => ⟨d, h1, as1, e, x, sl.mono x, i, r, q⟩⟩
theorem thens {G : Gx} {ev : Sg → Hs → R (List D)} {β : Type} {γ : Type} {Rl : List Addr → Hp → γ → β → Prop} {f : List D → Hs → R γ} {σI : Sg} {h : Hs} {as : List Addr} {σ : L2.St} {H : Hp} {Q : β → Hp → Prop}
    (sl : SL G σI as H σ) (hi : HI G h as H) (p : post G Wx Rl as H σ ((ev σI h).bind f) Q) :
    tEs G Wx ev σ H fun x H1 => ∃ d h1 as1, ev σI h = .ok d h1 ∧ Ext as H as1 H1 ∧ SL G σI as1 H1 σ ∧ HI G h1 as1 H1 ∧ Reps G as1 H1 d x ∧ post G Wx Rl as1 H1 σ (f d h1) Q :=
  ⟨σI, h, as, sl, hi, (post.bind (Rl := Reps G) p).imp fun v H1 ⟨d, h1, as1, e, x, i, r, q⟩ => ⟨d, h1, as1, e, x, sl.mono x, i, r, q⟩⟩
/-- a test out of a value -/
theorem mkT {e : Expr} {ev : Sg → Hs → R D} (h : PE X e (tE (M.g X.K) Wx ev)) (he : ∀ whole, isTrue e X.env whole = (do let v ← whole; standAt e.pos; holding [v] (truthy v))) : PT X e (tT (M.g X.K) Wx ev) := by
  refine pt_imp (pt_truth h he) ?_
  rintro σ H Q ⟨σI, h, as, sl, hi, p⟩
  obtain ⟨σI', h', as', sl', hi', p'⟩ := then1 sl hi p
  refine ⟨σI', h', as', sl', hi', p'.imp ?_⟩
  rintro v H1 ⟨d, h1, as1, _, x, _, i, r, q⟩
  unfold truthR at q
  cases hb : truth d h1 with
  | none => rw [hb] at q; exact q.elim
  | some b =>
    rw [hb] at q
    exact ⟨b, truth_ok (M := M) i r hb, q b as1 H1 Ext.refl i rfl⟩
end
end Rf
end

section
namespace Rf
open PySem PySem.Spec PyProof.Rows L2

theorem okN_ok {x : Str} (h : okN x = true) : (x == ("__debug__" : Str)) = false ∧ (x == ("__classdict__" : Str)) = false ∧ x ≠ "__name__" := by
  simp only [okN, Bool.and_eq_true, Bool.not_eq_true'] at h
  exact ⟨h.1.1.1, h.1.1.2, fun e => by rw [e, beq_self_eq_true] at h; cases h.1.2⟩
theorem star_one {e : Expr} (h : isStar e = false) (r : List Expr) (env : Env) : starEach (e :: r) env = (false, eval e env) :: starEach r env := by
  cases e <;> first | rfl | (simp [isStar] at h)
theorem chkEs_star {C : Ck} {sc : Scope} {env : Env} {pos : Pos} : ∀ {es : List E} {xs : List Expr}, chkEs C es sc xs = true → (backTo pos (starEach xs env)).any (·.1) = false
  | [], [], _ => rfl
  | e :: es, x :: xs, h => by
    simp only [chkEs, Bool.and_eq_true, Bool.not_eq_true'] at h
    rw [star_one h.1.2]
    show (false || (backTo pos (starEach xs env)).any (·.1)) = false
    rw [chkEs_star h.2]; rfl
  | [], _ :: _, h => by simp [chkEs] at h
  | _ :: _, [], h => by simp [chkEs] at h
theorem bare_ok {o : Expr} {a : Str} {env : Env} {whole : Sem Value} (h : notBare o = true) : attributeBase o a env whole = whole := by
  unfold attributeBase
  split
  · simp [notBare] at h
  · rfl
section
variable {X : Cx} {M : Mx} {C : Ck} {sc : Scope} {n : Nat} {Wx : WX} {cf : CF}
abbrev SE (M : Mx) (X : Cx) (Wx : WX) (cf : CF) (ie : E) (e : Expr) : Prop := PE X e (tE (M.g X.K) Wx (evalE M.W cf M.cx ie)) ∧ PT X e (tT (M.g X.K) Wx (evalE M.W cf M.cx ie))
theorem se_var (K : Cok X M C sc n Wx cf) {i : Nat} {x : Str} {pos : Pos} (h1 : isC C.N i x = true) (h2 : visB sc x = true) (h3 : okN x = true) : PE X (.Name x pos) (tE (M.g X.K) Wx (evalE M.W cf M.cx (.var i))) := by
  obtain ⟨d1, d2, _⟩ := okN_ok h3
  refine pe_imp (pe_var (i := i) (by rw [K.N]; exact isC_ok h1) (K.vis x h2) d1 d2) ?_
  rintro σ H Q ⟨σI, h, as, sl, hi, p⟩
  simp only [evalE] at p
  split at p
  · rename_i d e
    obtain ⟨v, e1, r⟩ := sl.at_ i d e
    exact ⟨v, e1, p v as H Ext.refl hi r⟩
  · exact p.elim
theorem se_cst {d : D} {c : Const} {k : Nat} {pos : Pos} (h : cstB d c = true) : PE X (.Constant c k pos) (tE (M.g X.K) Wx (evalE M.W cf M.cx (.cst d))) := by
  have fin : ∀ {v : V}, PE X (.Constant c k pos) (tC v) → (∀ as H, Rep (M.g X.K) as H d v) → PE X (.Constant c k pos) (tE (M.g X.K) Wx (evalE M.W cf M.cx (.cst d))) := by
    intro v hp hr
    refine pe_imp hp ?_
    rintro σ H Q ⟨σI, h, as, sl, hi, p⟩
    exact p v as H Ext.refl hi (hr as H)
  cases d <;> cases c <;> simp only [cstB, Bool.false_eq_true] at h
  · exact fin pe_non fun _ _ => by simp only [Rep]
  · obtain rfl := eq_of_beq h
    exact fin pe_bl fun _ _ => by simp only [Rep]
  · obtain rfl := of_decide_eq_true h
    exact fin pe_int fun _ _ => by simp only [Rep]
  · obtain rfl := of_decide_eq_true h
    exact fin pe_str fun _ _ => by simp only [Rep]
theorem se_glb (K : Cok X M C sc n Wx cf) {g : Nat} {x : Str} {pos : Pos} (h1 : isC C.gnm g x = true) (h2 : glB sc x = true) (h3 : okN x = true) : PE X (.Name x pos) (tE (M.g X.K) Wx (evalE M.W cf M.cx (.glb g))) := by
  obtain ⟨a, m1, m2⟩ := K.glb g x (isC_ok h1)
  refine pe_imp (pe_glob (v := .ref a) (K.gl x h2) m1 rfl (okN_ok h3).1) ?_
  rintro σ H Q ⟨σI, h, as, sl, hi, p⟩
  exact p _ as H Ext.refl hi (by simp only [Rep]; exact ⟨a, rfl, m2⟩)
theorem se_fnv (K : Cok X M C sc n Wx cf) (hh : C.hot = false) {f : Nat} {x : Str} {pos : Pos} (h1 : isC C.fnm f x = true) (h2 : glB sc x = true) (h3 : okN x = true) : PE X (.Name x pos) (tE (M.g X.K) Wx (evalE M.W cf M.cx (.fnv f))) := by
  obtain ⟨a, m1, m2⟩ := (K.cool hh).fns.1 f x (isC_ok h1)
  refine pe_imp (pe_glob (v := .ref a) (K.gl x h2) m1 rfl (okN_ok h3).1) ?_
  rintro σ H Q ⟨σI, h, as, sl, hi, p⟩
  exact p _ as H Ext.refl hi (by simp only [Rep]; exact ⟨a, rfl, m2⟩)
theorem se_gst (K : Cok X M C sc n Wx cf) {g : Nat} {s : List Char} {x : Str} {pos : Pos} (h1 : C.snm[g]? = some (x, s)) (h2 : glB sc x = true) (h3 : okN x = true) : PE X (.Name x pos) (tE (M.g X.K) Wx (evalE M.W cf M.cx (.gst g s))) := by
  obtain ⟨t, m1⟩ := K.gs g x s h1
  refine pe_imp (pe_glob (v := .str (st s)) (K.gl x h2) m1 ⟨t, rfl⟩ (okN_ok h3).1) ?_
  rintro σ H Q ⟨σI, h, as, sl, hi, p⟩
  exact p _ as H Ext.refl hi (by simp only [Rep])
theorem se_gni (K : Cok X M C sc n Wx cf) {g : Nat} {i : Int} {x : Str} {pos : Pos} (h1 : C.inm[g]? = some (x, i)) (h2 : glB sc x = true) (h3 : okN x = true) : PE X (.Name x pos) (tE (M.g X.K) Wx (evalE M.W cf M.cx (.gni g i))) := by
  obtain ⟨t, m1⟩ := K.gi g x i h1
  refine pe_imp (pe_glob (v := .int i) (K.gl x h2) m1 ⟨t, rfl⟩ (okN_ok h3).1) ?_
  rintro σ H Q ⟨σI, h, as, sl, hi, p⟩
  exact p _ as H Ext.refl hi (by simp only [Rep])
/-- two operands -/
def r2 (M : Mx) (K : PySem.W.Frag) (Wx : WX) (σ : L2.St) (f : D → D → Hs → R D) : R2 := fun x y H Q => ∃ dx dy h as, HI (M.g K) h as H ∧ Rep (M.g K) as H dx x ∧ Rep (M.g K) as H dy y ∧ post (M.g K) Wx (Rep (M.g K)) as H σ (f dx dy h) Q
theorem to2 {ea eb : Sg → Hs → R D} {f : D → D → Hs → R D} {σ : L2.St} {H : Hp} {Q : VK}
    (h : tE (M.g X.K) Wx (fun σ h => (ea σ h).bind fun x h => (eb σ h).bind fun y h => f x y h) σ H Q) :
    ∀ σI h as, SL (M.g X.K) σI as H σ → HI (M.g X.K) h as H → post (M.g X.K) Wx (Rep (M.g X.K)) as H σ ((ea σI h).bind fun x h => (eb σI h).bind fun y h => f x y h) Q → tOp (r2 M X.K Wx σ f) (tE (M.g X.K) Wx ea) (tE (M.g X.K) Wx eb) σ H Q := by
  intro σI h as sl hi p
  obtain ⟨σI', h', as', sl', hi', p'⟩ := then1 sl hi p
  refine ⟨σI', h', as', sl', hi', p'.imp ?_⟩
  rintro x H1 ⟨dx, h1, as1, _, x1, sl1, i1, r1, q1⟩
  obtain ⟨σI', h', as', sl', hi', p'⟩ := then1 sl1 i1 q1
  refine ⟨σI', h', as', sl', hi', p'.imp ?_⟩
  rintro y H2 ⟨dy, h2, as2, _, x2, sl2, i2, rr2, q2⟩
  exact ⟨dx, dy, h2, as2, i2, r1.mono x2, rr2, q2⟩
theorem se_bin (K : Cok X M C sc n Wx cf) {o : Op} {op : Operator} {a b : E} {x y : Expr} {pos : Pos} (ho : opB o op = true) (ha : SE M X Wx cf a x) (hb : SE M X Wx cf b y) : PE X (.BinOp x op y pos) (tE (M.g X.K) Wx (evalE M.W cf M.cx (.bin o a b))) := by
  refine ⟨fun pins s σ H Q I h => ?_⟩
  obtain ⟨σI, h, as, sl, hi, p⟩ := h
  refine (pe_op (r := r2 M X.K Wx σ (opD o)) ?_ ha.1 hb.1).run pins s σ H Q I (to2 (Q := Q) ⟨σI, h, as, sl, hi, p⟩ σI h as sl hi p)
  rintro pins s σ' H x y v u Q I rx ry ⟨dx, dy, h, as, hi, r1, r2, p⟩
  exact opD_ok (Wx := fun c d _ H => Wx c d σ H) (opB_ok ho) I rx ry hi r1 r2 (by cases hh : opD o dx dy h <;> rw [hh] at p <;> exact p)
theorem cmpR (K : Cok X M C sc n Wx cf) (o : Cp) (σ : L2.St) : OpR X (compareOp (cpOf o)) (r2 M X.K Wx σ (cmpA M.W.cons o)) := by
  rintro pins s σ' H x y v u Q I rx ry ⟨dx, dy, h, as, hi, r1, r2, p⟩
  exact cmpA_ok (Wx := fun c d _ H => Wx c d σ H) K.hu K.con I rx ry hi r1 r2 (by cases hh : cmpA M.W.cons o dx dy h <;> rw [hh] at p <;> exact p)
theorem cmpA_bl {cs : List (List D)} {o : Cp} {x y d : D} {h h' : Hs} (e : cmpA cs o x y h = .ok d h') : ∃ b, d = .bl b := by
  have ci : ∀ {g : Int → Int → Bool}, cmpI g x y h = .ok d h' → ∃ b, d = .bl b := by
    intro g e
    unfold cmpI at e
    split at e
    · cases e; exact ⟨_, rfl⟩
    · cases e
  have dc : ∀ {q : List (D × D) × List (D × D)} {g : Bool → Bool}, ((ofO (eqKV q.1 q.2) h).bind fun b h => R.ok (.bl (g b)) h) = .ok d h' → ∃ b, d = .bl b := by
    intro q g e
    cases hh : eqKV q.1 q.2 <;> rw [hh] at e <;> cases e
    exact ⟨_, rfl⟩
  cases o <;> simp only [cmpA, cmpD] at e
  · split at e
    · exact dc (g := fun b => b) e
    · split at e
      · cases e; exact ⟨_, rfl⟩
      · cases e
  · split at e
    · exact dc (g := fun b => !b) e
    · split at e
      · cases e; exact ⟨_, rfl⟩
      · cases e
  · exact ci e
  · exact ci e
  · exact ci e
  · exact ci e
  · cases hh : inD cs x y h <;> rw [hh] at e <;> cases e; exact ⟨_, rfl⟩
  · cases hh : inD cs x y h <;> rw [hh] at e <;> cases e; exact ⟨_, rfl⟩
  · split at e
    · cases e; exact ⟨_, rfl⟩
    · split at e
      · cases e; exact ⟨_, rfl⟩
      · cases e
    · cases e
  · split at e
    · cases e; exact ⟨_, rfl⟩
    · split at e
      · cases e; exact ⟨_, rfl⟩
      · cases e
    · cases e
theorem R.bind_assoc {α β γ : Type} (r : R α) (f : α → Hs → R β) (g : β → Hs → R γ) : (r.bind f).bind g = r.bind fun a h => (f a h).bind g := by
  cases r <;> rfl
theorem mark_ok {o : Cp} {y : Expr} (h : isSet y = false) : behindInMarks (cpOf o) y = false := by
  cases y <;> first | rfl | (simp [isSet] at h)
theorem se_cmp (K : Cok X M C sc n Wx cf) {o : Cp} {op : CmpOp} {a b : E} {x y : Expr} {pos : Pos} (ho : cpB o op = true) (ha : SE M X Wx cf a x) (hb : SE M X Wx cf b y) (hs : isSet y = false) : SE M X Wx cf (.cmp o a b) (.Compare x [op] [y] pos) := by
  obtain rfl := cpB_ok ho
  constructor
  · refine ⟨fun pins s σ H Q I h => ?_⟩
    obtain ⟨σI, h, as, sl, hi, p⟩ := h
    exact (pe_cmpR (cmpR K o σ) ha.1 hb.1 (mark_ok hs)).run pins s σ H Q I (to2 (Q := Q) ⟨σI, h, as, sl, hi, p⟩ σI h as sl hi p)
  · refine ⟨fun pins s σ H Q I h => ?_⟩
    obtain ⟨σI, h, as, sl, hi, p⟩ := h
    refine (pt_cmpR (cmpR K o σ) ha.1 hb.1 (mark_ok hs)).run pins s σ H Q I ?_
    have p2 : post (M.g X.K) Wx (Rep (M.g X.K)) as H σ (evalE M.W cf M.cx (.cmp o a b) σI h) (fun v H1 => ∃ k, v = .bl k ∧ Q k H1) := by
      simp only [evalE] at p ⊢
      cases e1 : evalE M.W cf M.cx a σI h with
      | ok dx h1 =>
        rw [e1] at p
        simp only [R.bind_ok] at p ⊢
        cases e2 : evalE M.W cf M.cx b σI h1 with
        | ok dy h2 =>
          rw [e2] at p
          simp only [R.bind_ok] at p ⊢
          cases e3 : cmpA M.W.cons o dx dy h2 with
          | ok d h3 =>
            rw [e3] at p
            obtain ⟨c, rfl⟩ := cmpA_bl e3
            rintro v as' H' x' i' r'
            simp only [Rep] at r'
            exact ⟨c, r', p c as' H' x' i' rfl⟩
          | exc c fs h3 => rw [e3] at p; exact p
          | no => rw [e3] at p; exact p
        | exc c fs h2 => rw [e2] at p; exact p
        | no => rw [e2] at p; exact p
      | exc c fs h1 => rw [e1] at p; exact p
      | no => rw [e1] at p; exact p
    exact to2 (Q := fun v H1 => ∃ k, v = .bl k ∧ Q k H1) ⟨σI, h, as, sl, hi, p2⟩ σI h as sl hi p2
end
end Rf
end

section
namespace Rf
open PySem PySem.Spec PyProof.Rows L2

theorem mcall {o : Expr} {m : Str} {apos pos : Pos} {xs : List Expr} {env : Env} (hb : attributeBase o m env (eval o env) = eval o env)
    (hf : methodCallForm (xs.length + ([] : List Keyword).length) (backTo pos (starEach xs env)) (backToKw pos (keywordEach [] env)) = true) (hl : (apos.endLine == pos.line) = true) :
    eval (.Call (.Attribute o m apos) xs [] pos) env = (do
      let ov ← eval o env
      standAt apos.atName
      let (f, first) ← holding [ov] (getMethod ov m (do return (← importBound o env).getD true))
      callWith pos f first (backTo pos (starEach xs env)) (backToKw pos (keywordEach [] env))) := by
  refine mcall_of (kws := []) hb fun ov => ?_
  unfold methodCall methodCallPos calleeOf
  rw [hf]
  simp only [if_true, Bool.not_true, Bool.false_or, hl]
  rfl
theorem chkEs_form {C : Ck} {sc : Scope} {env : Env} {pos : Pos} : ∀ {es : List E} {xs : List Expr}, chkEs C es sc xs = true → (backTo pos (starEach xs env)).all (fun x => !x.1) = true
  | [], [], _ => rfl
  | e :: es, x :: xs, h => by
    simp only [chkEs, Bool.and_eq_true, Bool.not_eq_true'] at h
    rw [star_one h.1.2]
    show (!false && (backTo pos (starEach xs env)).all (fun x => !x.1)) = true
    rw [chkEs_form h.2]; rfl
  | [], _ :: _, h => by simp [chkEs] at h
  | _ :: _, [], h => by simp [chkEs] at h
section
variable {X : Cx} {M : Mx} {C : Ck} {sc : Scope} {n : Nat} {Wx : WX} {cf : CF}
theorem se_chn (K : Cok X M C sc n Wx cf) {o o' : Cp} {op op' : CmpOp} {a b c : E} {x y z : Expr} {pos : Pos} (ho : cpB o op = true) (ho' : cpB o' op' = true) (ha : SE M X Wx cf a x) (hb : SE M X Wx cf b y) (hc : SE M X Wx cf c z) (hs : isSet z = false) :
    SE M X Wx cf (.chn o o' a b c) (.Compare x [op, op'] [y, z] pos) := by
  obtain rfl := cpB_ok ho
  obtain rfl := cpB_ok ho'
  have key : ∀ {σ H} {Q : VK} {σI h as}, SL (M.g X.K) σI as H σ → HI (M.g X.K) h as H → post (M.g X.K) Wx (Rep (M.g X.K)) as H σ (evalE M.W cf M.cx (.chn o o' a b c) σI h) Q →
      tChain (r2 M X.K Wx σ (cmpA M.W.cons o)) (r2 M X.K Wx σ (cmpA M.W.cons o')) (tE (M.g X.K) Wx (evalE M.W cf M.cx a)) (tE (M.g X.K) Wx (evalE M.W cf M.cx b)) (tE (M.g X.K) Wx (evalE M.W cf M.cx c)) σ H Q := by
    intro σ H Q σI h as sl hi p
    simp only [evalE] at p
    obtain ⟨q1, q2, q3, sl', hi', p'⟩ := then1 sl hi p
    refine ⟨q1, q2, q3, sl', hi', p'.imp ?_⟩
    rintro x H1 ⟨dx, h1, as1, _, x1, sl1, i1, r1, p1⟩
    obtain ⟨q1, q2, q3, sl', hi', p'⟩ := then1 sl1 i1 p1
    refine ⟨q1, q2, q3, sl', hi', p'.imp ?_⟩
    rintro y H2 ⟨dy, h2, as2, _, x2, sl2, i2, r2, p2⟩
    refine ⟨dx, dy, h2, as2, i2, r1.mono x2, r2, (post.bind (Rl := Rep (M.g X.K)) p2).imp ?_⟩
    rintro z H3 ⟨dz, h3, as3, e3, x3, i3, r3, p3⟩
    obtain ⟨k, rfl⟩ := cmpA_bl e3
    simp only [Rep] at r3
    refine ⟨k, r3, ?_⟩
    cases k with
    | false => exact p3 _ as3 H3 Ext.refl i3 (by simp only [Rep])
    | true =>
      rw [if_pos rfl]
      obtain ⟨q1, q2, q3, sl', hi', p'⟩ := then1 (sl2.mono x3) i3 p3
      refine ⟨q1, q2, q3, sl', hi', p'.imp ?_⟩
      rintro w H4 ⟨dw, h4, as4, _, x4, sl4, i4, r4, p4⟩
      exact ⟨dy, dw, h4, as4, i4, (r2.mono x3).mono x4, r4, p4⟩
  have hm : lastMarks [cpOf o, cpOf o'] [y, z] = false := by
    show lastMarks [cpOf o'] [z] = false
    exact mark_ok hs
  constructor
  · refine ⟨fun pins s σ H Q I h => ?_⟩
    obtain ⟨σI, h, as, sl, hi, p⟩ := h
    exact (pe_chain (cmpR K o σ) (cmpR K o' σ) ha.1 hb.1 hc.1 hm).run pins s σ H Q I (key sl hi p)
  · refine ⟨fun pins s σ H Q I h => ?_⟩
    obtain ⟨σI, h, as, sl, hi, p⟩ := h
    refine (pt_chain (cmpR K o σ) (cmpR K o' σ) ha.1 hb.1 hc.1 hm).run pins s σ H Q I (key (Q := fun v H1 => ∃ k, v = .bl k ∧ Q k H1) sl hi ?_)
    cases e : evalE M.W cf M.cx (.chn o o' a b c) σI h with
    | ok d h1 =>
      rw [e] at p
      have : ∃ k, d = .bl k := by
        simp only [evalE] at e
        cases e1 : evalE M.W cf M.cx a σI h <;> rw [e1] at e <;> try cases e
        simp only [R.bind_ok] at e
        rename_i h1
        cases e2 : evalE M.W cf M.cx b σI h1 <;> rw [e2] at e <;> try cases e
        simp only [R.bind_ok] at e
        rename_i dy h2
        cases e3 : cmpA M.W.cons o _ dy h2 <;> rw [e3] at e <;> try cases e
        simp only [R.bind_ok] at e
        rename_i dz h3
        split at e
        · cases e4 : evalE M.W cf M.cx c σI h3 <;> rw [e4] at e <;> try cases e
          simp only [R.bind_ok] at e
          exact cmpA_bl e
        · cases e; exact ⟨_, rfl⟩
        · cases e
      obtain ⟨k, rfl⟩ := this
      rintro v as' H' x' i' r'
      simp only [Rep] at r'
      exact ⟨k, r', p k as' H' x' i' rfl⟩
    | exc c fs h1 => rw [e] at p; exact p
    | no => rw [e] at p; exact p
/-- and -/
theorem se_and (K : Cok X M C sc n Wx cf) {a b : E} {x y : Expr} {r : List Expr} {pos : Pos} (ha : SE M X Wx cf a x) (hb : PE X (.BoolOp .And (y :: r) pos) (tE (M.g X.K) Wx (evalE M.W cf M.cx b)))
    (hw : PW X (.BoolOp .And (y :: r) pos) (tT (M.g X.K) Wx (evalE M.W cf M.cx b))) :
    PE X (.BoolOp .And (x :: y :: r) pos) (tE (M.g X.K) Wx (evalE M.W cf M.cx (.and a b))) ∧ PW X (.BoolOp .And (x :: y :: r) pos) (tT (M.g X.K) Wx (evalE M.W cf M.cx (.and a b))) := by
  constructor
  · refine pe_imp (pe_andT ha.1 hb) ?_
    rintro σ H Q ⟨σI, h, as, sl, hi, p⟩
    simp only [evalE] at p
    obtain ⟨q1, q2, q3, sl', hi', p'⟩ := then1 sl hi p
    refine ⟨q1, q2, q3, sl', hi', p'.imp ?_⟩
    rintro x H1 ⟨dx, h1, as1, _, x1, sl1, i1, r1, p1⟩
    obtain ⟨t, et, p2⟩ := post.ofO p1
    refine ⟨t, truth_ok (M := M) i1 r1 et, ?_⟩
    cases t with
    | true => exact ⟨σI, h1, as1, sl1, i1, p2⟩
    | false => exact p2 x as1 H1 Ext.refl i1 r1
  · refine pw_imp (pw_and ha.2 hw) ?_
    rintro σ H Q ⟨σI, h, as, sl, hi, p⟩
    simp only [evalE] at p
    rw [R.bind_assoc] at p
    refine ⟨σI, h, as, sl, hi, ?_⟩
    cases e : evalE M.W cf M.cx a σI h with
    | exc c fs h1 => rw [e] at p; exact p
    | no => rw [e] at p; exact p
    | ok d h1 =>
      rw [e] at p
      simp only [R.bind_ok] at p ⊢
      unfold truthR at p ⊢
      cases et : truth d h1 with
      | none => rw [et] at p; exact p
      | some t =>
        rw [et] at p
        rintro k as1 H1 x1 i1 rfl
        cases t with
        | true => exact ⟨σI, h1, as1, sl.mono x1, i1, p.mono x1⟩
        | false =>
          simp only [ofO_some, R.bind_ok, Bool.false_eq_true, if_false] at p
          rw [et] at p
          exact p false as1 H1 x1 i1 rfl
theorem se_or (K : Cok X M C sc n Wx cf) {a b : E} {x y : Expr} {r : List Expr} {pos : Pos} (ha : SE M X Wx cf a x) (hb : PE X (.BoolOp .Or (y :: r) pos) (tE (M.g X.K) Wx (evalE M.W cf M.cx b)))
    (hw : PW X (.BoolOp .Or (y :: r) pos) (tT (M.g X.K) Wx (evalE M.W cf M.cx b))) :
    PE X (.BoolOp .Or (x :: y :: r) pos) (tE (M.g X.K) Wx (evalE M.W cf M.cx (.or a b))) ∧ PW X (.BoolOp .Or (x :: y :: r) pos) (tT (M.g X.K) Wx (evalE M.W cf M.cx (.or a b))) := by
  constructor
  · refine pe_imp (pe_orT ha.1 hb) ?_
    rintro σ H Q ⟨σI, h, as, sl, hi, p⟩
    simp only [evalE] at p
    obtain ⟨q1, q2, q3, sl', hi', p'⟩ := then1 sl hi p
    refine ⟨q1, q2, q3, sl', hi', p'.imp ?_⟩
    rintro x H1 ⟨dx, h1, as1, _, x1, sl1, i1, r1, p1⟩
    obtain ⟨t, et, p2⟩ := post.ofO p1
    refine ⟨t, truth_ok (M := M) i1 r1 et, ?_⟩
    cases t with
    | false => exact ⟨σI, h1, as1, sl1, i1, p2⟩
    | true => exact p2 x as1 H1 Ext.refl i1 r1
  · refine pw_imp (pw_or ha.2 hw) ?_
    rintro σ H Q ⟨σI, h, as, sl, hi, p⟩
    simp only [evalE] at p
    rw [R.bind_assoc] at p
    refine ⟨σI, h, as, sl, hi, ?_⟩
    cases e : evalE M.W cf M.cx a σI h with
    | exc c fs h1 => rw [e] at p; exact p
    | no => rw [e] at p; exact p
    | ok d h1 =>
      rw [e] at p
      simp only [R.bind_ok] at p ⊢
      unfold truthR at p ⊢
      cases et : truth d h1 with
      | none => rw [et] at p; exact p
      | some t =>
        rw [et] at p
        rintro k as1 H1 x1 i1 rfl
        cases t with
        | false => exact ⟨σI, h1, as1, sl.mono x1, i1, p.mono x1⟩
        | true =>
          simp only [ofO_some, R.bind_ok, if_true] at p
          rw [et] at p
          exact p true as1 H1 x1 i1 rfl
theorem se_not (K : Cok X M C sc n Wx cf) {a : E} {x : Expr} {pos : Pos} (ha : SE M X Wx cf a x) : SE M X Wx cf (.not a) (.UnaryOp .Not x pos) := by
  constructor
  · refine pe_imp (pe_notT ha.1) ?_
    rintro σ H Q ⟨σI, h, as, sl, hi, p⟩
    simp only [evalE] at p
    obtain ⟨q1, q2, q3, sl', hi', p'⟩ := then1 sl hi p
    refine ⟨q1, q2, q3, sl', hi', p'.imp ?_⟩
    rintro x H1 ⟨dx, h1, as1, _, x1, sl1, i1, r1, p1⟩
    obtain ⟨t, et, p2⟩ := post.ofO p1
    exact ⟨t, truth_ok (M := M) i1 r1 et, p2 _ as1 H1 Ext.refl i1 (by simp only [Rep])⟩
  · refine pt_imp (pt_not ha.2) ?_
    rintro σ H Q ⟨σI, h, as, sl, hi, p⟩
    simp only [evalE] at p
    rw [R.bind_assoc] at p
    refine ⟨σI, h, as, sl, hi, ?_⟩
    cases e : evalE M.W cf M.cx a σI h with
    | exc c fs h1 => rw [e] at p; exact p
    | no => rw [e] at p; exact p
    | ok d h1 =>
      rw [e] at p
      simp only [R.bind_ok] at p ⊢
      unfold truthR at p ⊢
      cases et : truth d h1 with
      | none => rw [et] at p; exact p
      | some t =>
        rw [et] at p
        rintro k as1 H1 x1 i1 rfl
        exact p (!t) as1 H1 x1 i1 rfl
theorem se_ife (K : Cok X M C sc n Wx cf) {c a b : E} {z x y : Expr} {pos : Pos} (hc : SE M X Wx cf c z) (ha : SE M X Wx cf a x) (hb : SE M X Wx cf b y) : SE M X Wx cf (.ife c a b) (.IfExp z x y pos) := by
  constructor
  · refine pe_imp (pe_ifExp hc.2 ha.1 hb.1) ?_
    rintro σ H Q ⟨σI, h, as, sl, hi, p⟩
    simp only [evalE] at p
    rw [← R.bind_assoc] at p
    refine ⟨σI, h, as, sl, hi, (post.bind (Rl := rB) p).imp ?_⟩
    rintro k H1 ⟨d, h1, as1, _, x1, i1, rfl, p1⟩
    cases d with
    | true => exact ⟨σI, h1, as1, sl.mono x1, i1, p1⟩
    | false => exact ⟨σI, h1, as1, sl.mono x1, i1, p1⟩
  · have pt : PT X (.IfExp z x y pos) (fun σ H Q => tT (M.g X.K) Wx (evalE M.W cf M.cx c) σ H fun k H1 => if k = true then tT (M.g X.K) Wx (evalE M.W cf M.cx a) σ H1 Q else tT (M.g X.K) Wx (evalE M.W cf M.cx b) σ H1 Q) := by
      refine ⟨fun pins s σ H Q I h => ?_⟩
      refine isTrue_IfExp (thn (hc.2.run pins s σ H _ I h) fun d s1 ⟨H1, I1, q1⟩ => ?_)
      cases d with
      | true => exact ha.2.run pins s1 σ H1 Q I1 q1
      | false => exact hb.2.run pins s1 σ H1 Q I1 q1
    refine pt_imp pt ?_
    rintro σ H Q ⟨σI, h, as, sl, hi, p⟩
    simp only [evalE] at p
    rw [← R.bind_assoc, R.bind_assoc] at p
    refine ⟨σI, h, as, sl, hi, (post.bind (Rl := rB) p).imp ?_⟩
    rintro k H1 ⟨d, h1, as1, _, x1, i1, rfl, p1⟩
    cases d with
    | true => exact ⟨σI, h1, as1, sl.mono x1, i1, p1⟩
    | false => exact ⟨σI, h1, as1, sl.mono x1, i1, p1⟩
/-- displays -/
theorem se_tup {es : List E} {xs : List Expr} {k : Nat} {pos : Pos} (h : PA X xs (tEs (M.g X.K) Wx (evalEs M.W cf M.cx es))) : PE X (.Tuple xs k pos) (tE (M.g X.K) Wx (evalE M.W cf M.cx (.tup es))) := by
  refine pe_imp (pe_tup h) ?_
  rintro σ H Q ⟨σI, h, as, sl, hi, p⟩
  simp only [evalE] at p
  obtain ⟨q1, q2, q3, sl', hi', p'⟩ := thens sl hi p
  refine ⟨q1, q2, q3, sl', hi', p'.imp ?_⟩
  rintro vs H1 ⟨ds, h1, as1, _, x1, sl1, i1, r1, p1⟩
  split at p1
  · rename_i hl
    refine ⟨by rw [← r1.length]; exact hl, fun q hq => p1 _ as1 _ (ext_tup hq) (i1.other hq) ?_⟩
    simp only [Rep]
    exact ⟨q, vs, rfl, upd_same, r1.mono (ext_tup hq)⟩
  · exact p1.elim
theorem se_lst {es : List E} {xs : List Expr} {pos : Pos} (h : PA X xs (tEs (M.g X.K) Wx (evalEs M.W cf M.cx es))) : PE X (.List xs pos) (tE (M.g X.K) Wx (evalE M.W cf M.cx (.lst es))) := by
  refine pe_imp (pe_lst h) ?_
  rintro σ H Q ⟨σI, h, as, sl, hi, p⟩
  simp only [evalE] at p
  obtain ⟨q1, q2, q3, sl', hi', p'⟩ := thens sl hi p
  refine ⟨q1, q2, q3, sl', hi', p'.imp ?_⟩
  rintro vs H1 ⟨ds, h1, as1, _, x1, sl1, i1, r1, p1⟩
  split at p1
  · rename_i hl
    refine ⟨by rw [← r1.length]; exact hl, fun q hq => p1 _ (as1 ++ [q]) _ (ext_new hq) (i1.new hq ⟨vs, upd_same, r1.mono (ext_new hq)⟩) ?_⟩
    simp only [Rep]
    exact ⟨q, rfl, by rw [← i1.len]; simp⟩
  · exact p1.elim
theorem se_dic {t : Bool} {pos : Pos} : PE X (.Dict [] [] pos) (tE (M.g X.K) Wx (evalE M.W cf M.cx (.dic t [] []))) := by
  cases t with
  | false =>
    refine pe_imp pe_dnewK ?_
    rintro σ H Q ⟨σI, h, as, sl, hi, p⟩
    simp only [evalE] at p
    refine fun q hq => p _ (as ++ [q]) _ (ext_new hq) (hi.new hq ⟨[], ?_, .nil⟩) ?_
    · simp only [lkd, Bool.false_eq_true, if_false]; exact upd_same
    · simp only [Rep]
      exact ⟨q, rfl, by rw [← hi.len]; simp⟩
  | true =>
    refine pe_imp pe_dnewT ?_
    rintro σ H Q ⟨σI, h, as, sl, hi, p⟩
    simp only [evalE] at p
    refine fun q hq => p _ (as ++ [q]) _ (ext_new hq) (hi.new hq ⟨[], ?_, .nil⟩) ?_
    · simp only [lkd, Bool.false_eq_true, if_false]; exact upd_same
    · simp only [Rep]
      exact ⟨q, rfl, by rw [← hi.len]; simp⟩
end
end Rf
end

section
namespace Rf
open PySem PySem.Spec PyProof.Rows L2

theorem plainIx {y : Expr} (h : isSlice y = false) : PlainIx y := by
  intro o i
  cases y <;> first | rfl | (simp [isSlice] at h)
section
variable {X : Cx} {M : Mx} {C : Ck} {sc : Scope} {n : Nat} {Wx : WX} {cf : CF}
theorem se_ix (K : Cok X M C sc n Wx cf) {a b : E} {x y : Expr} {pos : Pos} (ha : SE M X Wx cf a x) (hb : SE M X Wx cf b y) (hs : isSlice y = false) : PE X (.Subscript x y pos) (tE (M.g X.K) Wx (evalE M.W cf M.cx (.ix a b))) := by
  refine ⟨fun pins s σ H Q I h => ?_⟩
  obtain ⟨σI, h, as, sl, hi, p⟩ := h
  simp only [evalE] at p
  -- is it a dict
  by_cases hd : ∃ m h1 dy h2 lk t kvs, evalE M.W cf M.cx a σI h = .ok (.ob m) h1 ∧ evalE M.W cf M.cx b σI h1 = .ok dy h2 ∧ h2[m]? = some (.dic lk t kvs)
  · obtain ⟨m, h1, dy, h2, lk, t, kvs, e1, e2, e3⟩ := hd
    refine (pe_dget (by have := K.hu; omega) ha.1 hb.1 (plainIx hs)).run pins s σ H Q I ?_
    obtain ⟨q1, q2, q3, sl', hi', p'⟩ := then1 sl hi p
    refine ⟨q1, q2, q3, sl', hi', p'.imp ?_⟩
    rintro x H1 ⟨dx, h1', as1, e1', x1, sl1, i1, r1, p1⟩
    rw [e1] at e1'; cases e1'
    obtain ⟨q1, q2, q3, sl', hi', p'⟩ := then1 sl1 i1 p1
    refine ⟨q1, q2, q3, sl', hi', p'.imp ?_⟩
    rintro y H2 ⟨dy', h2', as2, e2', x2, sl2, i2, rr, p2⟩
    rw [e2] at e2'; cases e2'
    have r1' := r1.mono x2
    simp only [Rep] at r1'
    obtain ⟨ad, rfl, ea⟩ := r1'
    simp only [ixD, e3] at p2
    split at p2
    · rename_i hk
      obtain ⟨o, g, ho⟩ := dget_ok (i2.ob m _ ad e3 ea) hk rr
      rcases ho with ⟨e4, _⟩ | ⟨d, v, e4, rfl, rv⟩
      · rw [e4] at p2; exact p2.elim
      · rw [e4] at p2
        exact ⟨ad, v, rfl, g, p2 v as2 H2 Ext.refl i2 rv⟩
    · exact p2.elim
  · refine (pe_ix (ix8 (M := M) (Wx := Wx) K.con σ) ha.1 hb.1 (plainIx hs)).run pins s σ H Q I ?_
    obtain ⟨q1, q2, q3, sl', hi', p'⟩ := then1 sl hi p
    refine ⟨q1, q2, q3, sl', hi', p'.imp ?_⟩
    rintro x H1 ⟨dx, h1, as1, e1, x1, sl1, i1, r1, p1⟩
    obtain ⟨q1, q2, q3, sl', hi', p'⟩ := then1 sl1 i1 p1
    refine ⟨q1, q2, q3, sl', hi', p'.imp ?_⟩
    rintro y H2 ⟨dy, h2, as2, e2, x2, sl2, i2, rr, p2⟩
    exact ⟨dx, dy, h2, as2, i2, r1.mono x2, rr, fun m lk t kvs e e3 => hd ⟨m, h1, dy, h2, lk, t, kvs, by rw [← e]; exact e1, e2, e3⟩, p2⟩
/-- a part of a slice -/
theorem po_of {lo : List E} {l : Option Expr} (h : (match l with | none => lo = [] | some e => ∃ a, lo = [a] ∧ SE M X Wx cf a e)) :
    PO X l (fun σ H Q => ∃ σI h as, SL (M.g X.K) σI as H σ ∧ HI (M.g X.K) h as H ∧ post (M.g X.K) Wx (fun _ _ (a b : Option Int) => a = b) as H σ ((evalEs M.W cf M.cx lo σI h).bind fun l h => ofO (optI l) h) Q) := by
  cases l with
  | none =>
    subst h
    refine ⟨fun pins s σ H Q I h => ?_⟩
    obtain ⟨σI, h, as, sl, hi, p⟩ := h
    exact po_none.run pins s σ H Q I (p none as H Ext.refl hi rfl)
  | some e =>
    obtain ⟨a, rfl, ha⟩ := h
    refine ⟨fun pins s σ H Q I h => ?_⟩
    obtain ⟨σI, h, as, sl, hi, p⟩ := h
    simp only [evalEs, R.bind_assoc] at p
    refine (po_some ha.1).run pins s σ H Q I ?_
    obtain ⟨q1, q2, q3, sl', hi', p'⟩ := then1 (Rl := fun _ _ (a b : Option Int) => a = b) sl hi p
    refine ⟨q1, q2, q3, sl', hi', p'.imp ?_⟩
    rintro x H1 ⟨dx, h1, as1, e1, x1, sl1, i1, r1, p1⟩
    simp only [R.bind_ok] at p1
    cases dx with
    | int i =>
      simp only [Rep] at r1
      exact ⟨i, r1, p1 (some i) as1 H1 Ext.refl i1 rfl⟩
    | _ => exact p1.elim
theorem se_slc (K : Cok X M C sc n Wx cf) {a : E} {lo hi : List E} {x : Expr} {l u : Option Expr} {p2 pos : Pos} (ha : SE M X Wx cf a x) (hl : (match l with | none => lo = [] | some e => ∃ a, lo = [a] ∧ SE M X Wx cf a e)) (hu : (match u with | none => hi = [] | some e => ∃ a, hi = [a] ∧ SE M X Wx cf a e)) :
    PE X (.Subscript x (.Slice l u none p2) pos) (tE (M.g X.K) Wx (evalE M.W cf M.cx (.slc a lo hi))) := by
  refine ⟨fun pins s σ H Q I h => ?_⟩
  obtain ⟨σI, h, as, sl, hi', p⟩ := h
  simp only [evalE] at p
  refine (pe_slice (sl8 (M := M) (Wx := Wx) σ) ha.1 (po_of hl) (po_of hu)).run pins s σ H Q I ?_
  obtain ⟨q1, q2, q3, sl', hi', p'⟩ := then1 sl hi' p
  refine ⟨q1, q2, q3, sl', hi', p'.imp ?_⟩
  rintro x H1 ⟨dx, h1, as1, e1, x1, sl1, i1, r1, p1⟩
  rw [← R.bind_assoc] at p1
  refine ⟨σI, h1, as1, sl1, i1, (post.bind (Rl := fun _ _ (a b : Option Int) => a = b) p1).imp ?_⟩
  rintro o H2 ⟨o', h2, as2, e2, x2, i2, rfl, p2⟩
  rw [← R.bind_assoc] at p2
  refine ⟨σI, h2, as2, sl1.mono x2, i2, (post.bind (Rl := fun _ _ (a b : Option Int) => a = b) p2).imp ?_⟩
  rintro o2 H3 ⟨o2', h3, as3, e3, x3, i3, rfl, p3⟩
  exact ⟨dx, h3, as3, i3, (r1.mono x2).mono x3, p3⟩
theorem se_back {a : E} {x : Expr} {k : Nat} {p1 p2 p3 pos : Pos} (ha : SE M X Wx cf a x) : PE X (.Subscript x (.Slice none none (some (.UnaryOp .USub (.Constant (.int 1) k p1) p2)) p3) pos) (tE (M.g X.K) Wx (evalE M.W cf M.cx (.back a))) := by
  refine pe_imp (pe_revL ha.1) ?_
  rintro σ H Q ⟨σI, h, as, sl, hi, p⟩
  simp only [evalE] at p
  obtain ⟨q1, q2, q3, sl', hi', p'⟩ := then1 sl hi p
  refine ⟨q1, q2, q3, sl', hi', p'.imp ?_⟩
  rintro x H1 ⟨dx, h1, as1, e1, x1, sl1, i1, r1, p1⟩
  split at p1
  · rename_i m
    simp only [Rep] at r1
    obtain ⟨ad, rfl, ea⟩ := r1
    split at p1
    · rename_i xs e2
      obtain ⟨vs, q1, q2⟩ := i1.ob m _ ad e2 ea
      refine ⟨ad, vs, rfl, SqL.of q1, fun q hq => ?_⟩
      refine p1 _ (as1 ++ [q]) _ (ext_new hq) (i1.new hq ⟨_, upd_same, (Reps.reverse q2).mono (ext_new hq)⟩) ?_
      simp only [Rep]
      exact ⟨q, rfl, by rw [← i1.len]; simp⟩
    · exact p1.elim
  · exact p1.elim
theorem se_fld (K : Cok X M C sc n Wx cf) (hh : C.hot = false) {a : E} {f : String} {x : Expr} {pos : Pos} (ha : SE M X Wx cf a x) (hb : notBare x = true) : PE X (.Attribute x (Str.ofString f) pos) (tE (M.g X.K) Wx (evalE M.W cf M.cx (.fld a f))) := by
  refine pe_imp (pe_fld ha.1 (bare_ok hb)) ?_
  rintro σ H Q ⟨σI, h, as, sl, hi, p⟩
  simp only [evalE] at p
  obtain ⟨q1, q2, q3, sl', hi', p'⟩ := then1 sl hi p
  refine ⟨q1, q2, q3, sl', hi', p'.imp ?_⟩
  rintro x H1 ⟨dx, h1, as1, e1, x1, sl1, i1, r1, p1⟩
  cases dx with
  | ob m =>
    simp only [Rep] at r1
    obtain ⟨ad, rfl, ea⟩ := r1
    simp only [fldD] at p1
    split at p1
    · rename_i c fs e2
      split at p1
      · rename_i hf
        unfold hasF at hf
        split at hf
        · rename_i ci e3
          obtain ⟨Ca, dx, vs, ec, eo, rf⟩ := i1.ob m _ ad e2 ea
          obtain ⟨c1, c2, _⟩ := (K.cool hh).cls c ci e3 Ca ec
          rcases rf.lookup f with ⟨e4, _⟩ | ⟨d, v, e4, e5, rv⟩
          · rw [e4] at p1; exact p1.elim
          · rw [e4] at p1
            exact ⟨ad, Ca, dx, vs, v, rfl, eo, c1, c2 f (List.contains_iff_mem.mp hf), e5, p1 v as1 H1 Ext.refl i1 rv⟩
        · cases hf
      · exact p1.elim
    · exact p1.elim
  | _ => exact p1.elim
theorem make_guards {A : Around} {C : Addr} {us : List Value} {kw : List (Str × Value)} : (A.under (.builtin "type.__call__" ⟨.ref C :: us, kw⟩)).guards = A.guards := by
  first | rfl | simp [Around.under, Code.guards, Code.isGuard, guardIds, pushGuards]
/-- a call's end -/
theorem run_cal (K : Cok X M C sc n Wx cf) (hh : C.hot = false) {a : Addr} {f : Nat} (B : FnB X.prog X.w X.K X.mg X.base M n cf a f)
    {pins : List (Addr × Obj)} {s : Shared} {σ : L2.St} {H : Hp} {Q : VK} {vs : List V} {us : List Value} {ds : List D} {h : Hs} {as : List Addr} (I : Inv X pins σ H s) (rv : Vals vs us) (hi : HI (M.g X.K) h as H) (rs : Reps (M.g X.K) as H ds vs)
    (p : post (M.g X.K) Wx (Rep (M.g X.K)) as H σ (cf f ds h) Q) : wpAny (model X.prog X.w) X.A (call (.ref a) us) (EP X pins σ Q) X.xe s := by
  obtain ⟨fd, ps, np, hb, hp, F, hl⟩ := B
  have hn : cf f ds h ≠ .no := fun e => by rw [e] at p; exact p
  refine run_G (E := WE Wx) F K.gd ((K.cool hh).room.mono (by omega)) hb (passAt K.tk σ) I rv ⟨by rw [← rs.length]; exact hl ds h hn, ds, h, as, hi, rs, ?_⟩
  cases hh : cf f ds h with
  | ok d h' => rw [hh] at p; exact p
  | exc c fs h' => rw [hh] at p; exact p
  | no => rw [hh] at p; exact p
theorem run_new (K : Cok X M C sc n Wx cf) (hh : C.hot = false) {a Ca : Addr} {f c : Nat} (B : FnB X.prog X.w X.K X.mg X.base M n cf a f) (mk : Mk X.K Ca a) (hc : M.ca c = some Ca)
    {pins : List (Addr × Obj)} {s : Shared} {σ : L2.St} {H : Hp} {Q : VK} {vs : List V} {us : List Value} {ds : List D} {h : Hs} {as : List Addr} (I : Inv X pins σ H s) (rv : Vals vs us) (hi : HI (M.g X.K) h as H) (rs : Reps (M.g X.K) as H ds vs)
    (p : post (M.g X.K) Wx (Rep (M.g X.K)) as H σ ((cf f (.ob h.length :: ds) (h ++ [.ins c []])).bind fun r h' => match r with | .non => .ok (.ob h.length) h' | _ => .no) Q) :
    wpAny (model X.prog X.w) X.A (call (.ref Ca) us) (EP X pins σ Q) X.xe s := by
  obtain ⟨fd, ps, np, hb, hp, F, hl⟩ := B
  have hn : cf f (.ob h.length :: ds) (h ++ [.ins c []]) ≠ .no := fun e => by rw [e] at p; exact p
  -- the new object
  have go : ∀ x dx, H x = none → H dx = none → dx ≠ x → spI M X.K cf np f (.ref x :: (vs ++ [])) (upd (upd H dx (.own x)) x (.ins Ca dx [])) (fun v H2 => v = .non ∧ Q (.ref x) H2) (fun cl d H' => Wx cl d σ H') := by
    intro x dx hx hdx ne
    have hx1 : upd H dx (.own x) x = none := by rw [upd_ne (Ne.symm ne)]; exact hx
    have i1 := (hi.other (o := .own x) hdx).new (mo := .ins c []) (o := .ins Ca dx []) hx1 ⟨Ca, dx, [], hc, upd_same, .nil⟩
    have ex : Ext as H (as ++ [x]) (upd (upd H dx (.own x)) x (.ins Ca dx [])) := (ext_tup hdx).trans (ext_new hx1)
    rw [List.append_nil]
    refine ⟨by rw [← hl _ _ hn]; simp [rs.length], .ob h.length :: ds, h ++ [.ins c []], as ++ [x], i1, ?_, ?_⟩
    · simp only [Reps, Rep]
      exact ⟨_, _, rfl, ⟨x, rfl, by rw [← hi.len]; simp⟩, rs.mono ex⟩
    · have p2 := p.mono ex
      cases hh : cf f (.ob h.length :: ds) (h ++ [.ins c []]) with
      | no => exact absurd hh hn
      | exc c' fs h' => rw [hh] at p2; exact p2
      | ok d h' =>
        rw [hh] at p2
        simp only [R.bind_ok] at p2
        split at p2
        · rintro v as' H' x' i' r'
          simp only [Rep] at r'
          refine ⟨r', p2 _ as' H' x' i' ?_⟩
          simp only [Rep]
          exact ⟨x, rfl, x'.pre _ _ (by rw [← hi.len]; simp)⟩
        · exact p2.elim
  have hq := go (s.heap.objs.size + 1) s.heap.objs.size (I.hok.fresh (Nat.le_succ _)) (I.hok.fresh (Nat.le_refl _)) (Nat.ne_of_lt (Nat.lt_succ_self _))
  have I2 := Inv.made (C := Ca) I
  rw [List.append_nil] at hq
  have rr : Vals (V.ref (s.heap.objs.size + 1) :: vs) (Value.ref (s.heap.objs.size + 1) :: us) := .cons rfl rv
  have hll : (Value.ref (s.heap.objs.size + 1) :: us ++ []).length = ps.length := by
    rw [List.append_nil, ← rr.length]; exact F.ln _ _ _ _ hq
  have b := hb _ (Value.ref (s.heap.objs.size + 1) :: us) I2.kIn hll
  rw [List.append_nil] at b
  refine wpAny_call (make_map (f := a) I.kIn mk.makes mk.init (beq_iff_eq.mp mk.fn) (codeAny_mono (F.go _ X.stack _ _ ⟨Value.ref (s.heap.objs.size + 1) :: us, []⟩ (Value.ref (s.heap.objs.size + 1) :: us) _ _ _ (by rw [make_guards]; exact K.gd) ((K.cool hh).room.make Ca us [])
    (I2.env0.make Ca us []) b rr hq) fun r s' hq' => ?_))
  cases r with
  | error e => exact passAt K.tk σ pins _ _ e s' I2 hq'
  | ok fl =>
    cases fl with
    | ret u =>
      obtain ⟨v, H', I3, rv, ev, q3⟩ := I2.after hq'
      subst ev
      exact ⟨rv, ⟨V.ref (s.heap.objs.size + 1), H', I3, rfl, q3⟩⟩
    | next => exact False.elim hq'
    | brk => exact False.elim hq'
    | cont => exact False.elim hq'
/-- f(..) -/
theorem se_cal (K : Cok X M C sc n Wx cf) (hh : C.hot = false) {f : Nat} {es : List E} {xs : List Expr} {x : Str} {p pos : Pos} (h1 : isC C.fnm f x = true) (h2 : glB sc x = true) (h3 : okN x = true) (hx : chkEs C es sc xs = true) (ha : PA X xs (tEs (M.g X.K) Wx (evalEs M.W cf M.cx es))) :
    PE X (.Call (.Name x p) xs [] pos) (tE (M.g X.K) Wx (evalE M.W cf M.cx (.cal f es))) := by
  obtain ⟨a, m1, m2⟩ := (K.cool hh).fns.1 f x (isC_ok h1)
  obtain ⟨kp, B⟩ := (K.cool hh).fns.2 f a m2
  refine ⟨fun pins s σ H Q I h => ?_⟩
  obtain ⟨σI, h, as, sl, hi, p⟩ := h
  simp only [evalE] at p
  refine wpAny_Call_Name_kw (ld_glob I (K.gl x h2) m1 ?_ (okN_ok h3).1)
  cases xs with
  | nil =>
    cases es with
    | cons e es => simp [chkEs] at hx
    | nil => exact PySem.W.callWith_K0 I.kIn kp (run_cal (us := []) K hh B I .nil hi (by simp only [Reps]) p)
  | cons y ys =>
    cases es with
    | nil => simp [chkEs] at hx
    | cons e es =>
      simp only [chkEs, Bool.and_eq_true, Bool.not_eq_true'] at hx
      refine PySem.W.callWith_K (h₀ := X.base) I.ok.mod.kin kp (thn (ha.run pos pins s σ H _ I (thens sl hi p)) fun us s1 ⟨vs, H1, I1, r, q⟩ => ⟨I1.kIn, ?_⟩) (star_one hx.1.2 _ _) (chkEs_star hx.2)
      obtain ⟨ds, h1, as1, _, x1, _, i1, rs, p1⟩ := q
      exact run_cal K hh B I1 r i1 rs p1
/-- C(..) -/
theorem se_new (K : Cok X M C sc n Wx cf) (hh : C.hot = false) {c : Nat} {es : List E} {xs : List Expr} {x : Str} {p pos : Pos} (h0 : c ∈ C.nw) (h1 : isC C.cnm c x = true) (h2 : glB sc x = true) (h3 : okN x = true) (hx : chkEs C es sc xs = true) (ha : PA X xs (tEs (M.g X.K) Wx (evalEs M.W cf M.cx es))) :
    PE X (.Call (.Name x p) xs [] pos) (tE (M.g X.K) Wx (evalE M.W cf M.cx (.new c es))) := by
  obtain ⟨ci, f, Ca, a, e1, e2, e3, m1, mk, B⟩ := (K.cool hh).mks c x h0 (isC_ok h1)
  refine ⟨fun pins s σ H Q I h => ?_⟩
  obtain ⟨σI, h, as, sl, hi, p⟩ := h
  simp only [evalE, e1, e2, Option.bind_some] at p
  refine wpAny_Call_Name_kw (ld_glob I (K.gl x h2) m1 ?_ (okN_ok h3).1)
  cases xs with
  | nil =>
    cases es with
    | cons e es => simp [chkEs] at hx
    | nil => exact PySem.W.callWith_K0 I.kIn mk.kp (run_new (us := []) K hh B mk e3 I .nil hi (by simp only [Reps]) p)
  | cons y ys =>
    cases es with
    | nil => simp [chkEs] at hx
    | cons e es =>
      simp only [chkEs, Bool.and_eq_true, Bool.not_eq_true'] at hx
      refine PySem.W.callWith_K (h₀ := X.base) I.ok.mod.kin mk.kp (thn (ha.run pos pins s σ H _ I (thens sl hi p)) fun us s1 ⟨vs, H1, I1, r, q⟩ => ⟨I1.kIn, ?_⟩) (star_one hx.1.2 _ _) (chkEs_star hx.2)
      obtain ⟨ds, h1, as1, _, x1, _, i1, rs, p1⟩ := q
      exact run_new K hh B mk e3 I1 r i1 rs p1
/-- a local's value called -/
theorem se_cav (K : Cok X M C sc n Wx cf) (hh : C.hot = false) {i : Nat} {es : List E} {xs : List Expr} {x : Str} {p pos : Pos} (h1 : isC C.N i x = true) (h2 : visB sc x = true) (h3 : okN x = true) (hx : chkEs C es sc xs = true) (ha : PA X xs (tEs (M.g X.K) Wx (evalEs M.W cf M.cx es))) :
    PE X (.Call (.Name x p) xs [] pos) (tE (M.g X.K) Wx (evalE M.W cf M.cx (.cav i es))) := by
  obtain ⟨d1, d2, _⟩ := okN_ok h3
  refine ⟨fun pins s σ H Q I h => ?_⟩
  obtain ⟨σI, h, as, sl, hi, p⟩ := h
  simp only [evalE] at p
  split at p
  · rename_i f e
    obtain ⟨v, e1, r⟩ := sl.at_ i _ e
    simp only [Rep] at r
    obtain ⟨a, rfl, m2⟩ := r
    obtain ⟨kp, B⟩ := (K.cool hh).fns.2 f a m2
    refine wpAny_Call_Name_kw (thn ((pe_var (pos := _) (by rw [K.N]; exact isC_ok h1) (K.vis x h2) d1 d2).run pins s σ H (fun v H1 => v = .ref a ∧ H1 = H) I ⟨.ref a, e1, rfl, rfl⟩) fun u s1 ⟨v, H1, I1, r1, q1⟩ => ?_)
    obtain ⟨rfl, rfl⟩ := q1
    cases r1
    cases xs with
    | nil =>
      cases es with
      | cons e es => simp [chkEs] at hx
      | nil => exact PySem.W.callWith_K0 I1.kIn kp (run_cal (us := []) K hh B I1 .nil hi (by simp only [Reps]) p)
    | cons y ys =>
      cases es with
      | nil => simp [chkEs] at hx
      | cons e es =>
        simp only [chkEs, Bool.and_eq_true, Bool.not_eq_true'] at hx
        refine PySem.W.callWith_K (h₀ := X.base) I.ok.mod.kin kp (thn (ha.run pos pins s1 σ _ _ I1 (thens sl hi p)) fun us s2 ⟨vs, H2, I2, r, q⟩ => ⟨I2.kIn, ?_⟩) (star_one hx.1.2 _ _) (chkEs_star hx.2)
        obtain ⟨ds, h1, as1, _, x1, _, i1, rs, p1⟩ := q
        exact run_cal K hh B I2 r i1 rs p1
  · exact p.elim
/-- methods of built-in values -/
def mtT : Mt → String
  | .append => "list" | .extend => "list" | .pop => "list" | .insert => "list" | .reverse => "list" | .get => "dict" | .update => "dict" | _ => "str"
def mtN : Mt → String
  | .append => "append" | .extend => "extend" | .pop => "pop" | .insert => "insert" | .reverse => "reverse" | .get => "get" | .update => "update" | .join => "join" | .startswith => "startswith" | .find => "find" | .isalnum => "isalnum" | .lower => "lower"
theorem mtOf_ok {as : List Addr} {H : Hp} {x : V} {d : D} {m : String} {h : Hs} {k : Mt} (hi : HI (M.g X.K) h as H) (r1 : Rep (M.g X.K) as H d x) (e : mtOf d m h = some k) : m = mtN k ∧ tyV X.K (mtT k) x H := by
  cases d with
  | ob nn =>
    simp only [Rep] at r1
    obtain ⟨a, rfl, ea⟩ := r1
    simp only [mtOf] at e
    split at e
    · rename_i xs e1
      obtain ⟨vs, h1, h2⟩ := hi.ob nn _ a e1 ea
      (repeat' split at e) <;> first
        | (cases e; done)
        | (cases e; exact ⟨‹_›, .inl ⟨rfl, vs, SqL.of h1⟩⟩)
    · rename_i kvs e1
      obtain ⟨kv, h1, h2⟩ := hi.ob nn _ a e1 ea
      simp only [lkd, Bool.false_eq_true, if_false] at h1
      split at e
      · cases e
        exact ⟨‹_›, .inr (.inr (.inl ⟨rfl, .inl ⟨_, h1⟩⟩))⟩
      · cases e
    · cases e
  | str z =>
    simp only [Rep] at r1
    subst r1
    simp only [mtOf] at e
    (repeat' split at e) <;> first
      | (cases e; done)
      | (cases e; exact ⟨‹_›, rfl⟩)
  | _ => simp [mtOf] at e
def rMt (M : Mx) (K : PySem.W.Frag) (Wx : WX) (σ : L2.St) (k : Mt) : V → List V → Hp → VK → Prop := fun x xs H Q => ∃ d ds h as, HI (M.g K) h as H ∧ Rep (M.g K) as H d x ∧ Reps (M.g K) as H ds xs ∧ post (M.g K) Wx (Rep (M.g K)) as H σ (methD k d ds h) Q
theorem mt_append8 (σ' : L2.St) : MtR X "list.append" (rMt M X.K Wx σ' .append) := by
  intro pins s σ H x vs v us Q I rx rv hh
  obtain ⟨d, ds, h, as, hi, r1, rs, p⟩ := hh
  simp only [methD] at p
  split at p
  · rename_i nn y
    simp only [Rep] at r1
    obtain ⟨a, rfl, ea⟩ := r1
    obtain ⟨w, _, rfl, r2, rn⟩ := rs.cons_inv
    obtain rfl := rn.nil_inv
    split at p
    · rename_i xs e1
      split at p
      · rename_i hl
        obtain ⟨ws, h1, hr⟩ := hi.ob nn _ a e1 ea
        refine mt_append pins s σ H _ _ v us Q I rx rv ⟨a, ws, w, rfl, rfl, h1, by rw [← hr.length]; exact hl, ?_⟩
        have ex := ext_set (o := HO.lst (ws ++ [w])) ea h1 (fun _ => by intro z; cases z) (fun _ _ => by intro z; cases z)
        refine p _ as _ ex (hi.set ea h1 (fun _ => by intro z; cases z) (fun _ _ => by intro z; cases z) ⟨_, upd_same, (Reps.append hr (Reps.one r2)).mono ex⟩) ?_
        simp only [Rep]
      · exact p.elim
    · exact p.elim
  · exact p.elim
theorem mt_reverse8 (σ' : L2.St) : MtR X "list.reverse" (rMt M X.K Wx σ' .reverse) := by
  intro pins s σ H x vs v us Q I rx rv hh
  obtain ⟨d, ds, h, as, hi, r1, rs, p⟩ := hh
  simp only [methD] at p
  split at p
  · rename_i nn
    simp only [Rep] at r1
    obtain ⟨a, rfl, ea⟩ := r1
    obtain rfl := rs.nil_inv
    split at p
    · rename_i xs e1
      obtain ⟨ws, h1, hr⟩ := hi.ob nn _ a e1 ea
      refine mt_reverse pins s σ H _ _ v us Q I rx rv ⟨a, ws, rfl, rfl, h1, ?_⟩
      have ex := ext_set (o := HO.lst ws.reverse) ea h1 (fun _ => by intro z; cases z) (fun _ _ => by intro z; cases z)
      refine p _ as _ ex (hi.set ea h1 (fun _ => by intro z; cases z) (fun _ _ => by intro z; cases z) ⟨_, upd_same, (Reps.reverse hr).mono ex⟩) ?_
      simp only [Rep]
    · exact p.elim
  · exact p.elim
theorem mt_extend8 (σ' : L2.St) : MtR X "list.extend" (rMt M X.K Wx σ' .extend) := by
  intro pins s σ H x vs v us Q I rx rv hh
  obtain ⟨d, ds, h, as, hi, r1, rs, p⟩ := hh
  simp only [methD] at p
  split at p
  · rename_i nn mm
    simp only [Rep] at r1
    obtain ⟨a, rfl, ea⟩ := r1
    obtain ⟨w, _, rfl, r2, rn⟩ := rs.cons_inv
    obtain rfl := rn.nil_inv
    simp only [Rep] at r2
    obtain ⟨b, rfl, eb⟩ := r2
    split at p
    · rename_i xs ys e1 e2
      split at p
      · rename_i hl
        obtain ⟨ws, h1, hr⟩ := hi.ob nn _ a e1 ea
        obtain ⟨zs, h2, hz⟩ := hi.ob mm _ b e2 eb
        refine mt_extend pins s σ H _ _ v us Q I rx rv ⟨a, b, ws, zs, rfl, rfl, h1, h2, by rw [← hr.length, ← hz.length]; exact hl, ?_⟩
        have ex := ext_set (o := HO.lst (ws ++ zs)) ea h1 (fun _ => by intro z; cases z) (fun _ _ => by intro z; cases z)
        refine p _ as _ ex (hi.set ea h1 (fun _ => by intro z; cases z) (fun _ _ => by intro z; cases z) ⟨_, upd_same, (Reps.append hr hz).mono ex⟩) ?_
        simp only [Rep]
      · exact p.elim
    · exact p.elim
  · exact p.elim
theorem mt_pop8 (σ' : L2.St) : MtR X "list.pop" (rMt M X.K Wx σ' .pop) := by
  intro pins s σ H x vs v us Q I rx rv hh
  obtain ⟨d, ds, h, as, hi, r1, rs, p⟩ := hh
  simp only [methD] at p
  split at p
  · rename_i nn
    simp only [Rep] at r1
    obtain ⟨a, rfl, ea⟩ := r1
    obtain rfl := rs.nil_inv
    split at p
    · rename_i xs e1
      split at p
      · rename_i y ey
        obtain ⟨ws, h1, hr⟩ := hi.ob nn _ a e1 ea
        obtain ⟨w, ew, rw'⟩ := hr.get ey
        refine mt_pop pins s σ H _ _ v us Q I rx rv ⟨a, ws, w, rfl, rfl, h1, by rw [← hr.length]; exact ew, ?_⟩
        have ex := ext_set (o := HO.lst ws.dropLast) ea h1 (fun _ => by intro z; cases z) (fun _ _ => by intro z; cases z)
        refine p _ as _ ex (hi.set ea h1 (fun _ => by intro z; cases z) (fun _ _ => by intro z; cases z) ⟨_, upd_same, ?_⟩) (rw'.mono ex)
        have := (Reps.take (xs.length - 1) hr).mono ex
        rw [← show xs.dropLast = xs.take (xs.length - 1) from List.dropLast_eq_take, ← show ws.dropLast = ws.take (xs.length - 1) from by rw [List.dropLast_eq_take, hr.length]] at this
        exact this
      · exact p.elim
    · exact p.elim
  · exact p.elim
theorem mt_insert8 (σ' : L2.St) : MtR X "list.insert" (rMt M X.K Wx σ' .insert) := by
  intro pins s σ H x vs v us Q I rx rv hh
  obtain ⟨d, ds, h, as, hi, r1, rs, p⟩ := hh
  simp only [methD] at p
  split at p
  · rename_i nn i y
    simp only [Rep] at r1
    obtain ⟨a, rfl, ea⟩ := r1
    obtain ⟨w, _, rfl, r2, rn⟩ := rs.cons_inv
    obtain ⟨w2, _, rfl, r3, rn⟩ := rn.cons_inv
    obtain rfl := rn.nil_inv
    simp only [Rep] at r2
    subst r2
    split at p
    · rename_i xs e1
      split at p
      · rename_i hl
        obtain ⟨ws, h1, hr⟩ := hi.ob nn _ a e1 ea
        refine mt_insert pins s σ H _ _ v us Q I rx rv ⟨a, ws, i, w2, rfl, rfl, h1, by rw [← hr.length]; exact hl.1, hl.2.1, by have := hl.2.2; omega, ?_⟩
        have ex := ext_set (o := HO.lst (ws.take i.toNat ++ [w2] ++ ws.drop i.toNat)) ea h1 (fun _ => by intro z; cases z) (fun _ _ => by intro z; cases z)
        refine p _ as _ ex (hi.set ea h1 (fun _ => by intro z; cases z) (fun _ _ => by intro z; cases z) ⟨_, upd_same, (Reps.append (Reps.append (Reps.take _ hr) (Reps.one r3)) (Reps.drop _ hr)).mono ex⟩) ?_
        simp only [Rep]
      · exact p.elim
    · exact p.elim
  · exact p.elim
theorem RepKV.mrg {G : Gx} {as : List Addr} {H : Hp} : ∀ {ls ks : List (D × D)} {lv kv : List (Key × V)}, RepKV keyK G as H ls lv → RepKV keyK G as H ks kv → RepKV keyK G as H (kvMrg ks ls) (mergeK kv lv)
  | _, _, _, _, .nil, k => k
  | _ :: ls, ks, _ :: lv, kv, .cons h t, k => by
    show RepKV keyK G as H (kvMrg (kvPut ks _ _) ls) (mergeK (putK kv _ _) lv)
    exact RepKV.mrg t (RepKV.put (fun a b => eqv_key a b) h.1 h.2 k)
theorem kvPut_le (ks : List (D × D)) (k v : D) : (kvPut ks k v).length ≤ ks.length + 1 := by
  unfold kvPut; split <;> simp
/-- d.update(e) -/
theorem d_upd {a b : Addr} {ks ls : List (Key × V)} {pins : List (Addr × Obj)} {σ : L2.St} {H : Hp} {s : Shared} {Q : Value → Shared → Prop} {E : Value → Shared → Prop} {A : Around} (I : Inv X pins σ H s) (e1 : H a = some (.dK ks)) (e2 : Rd H b (.dK ls)) (ne : a ≠ b)
    (sz : ks.length + ls.length ≤ sizeLine) (h : ∀ s', Inv X pins σ (upd H a (.dK (mergeK ks ls))) s' → Q .none s') : wpAny (model X.prog X.w) A (call (.builtin "dict.update") [.ref a, .ref b]) Q E s := by
  obtain ⟨z, hd, vs, rel, dd⟩ := dk_of I.hok e1
  obtain ⟨z2, hd2, vs2, rel2, dd2⟩ := dk_rd I.hok e2
  refine call_meetsIn PySem.F.slot_dict_update dd.typeIs PySem.F.entry_dict_update (PySem.F.args_dict_update_2 _ _) (meets_dict_update (mixKind X.prog X.w) a b ne hd2)
    ⟨vs, vs2, dd, dd2, by rw [← rel.length, ← rel2.length]; exact sz, fun g d1 _ hs => h _ ?_⟩
  obtain ⟨q, _, _, hq, _⟩ := id d1
  exact d_write (t' := s.toks) I (by rw [e1]; exact True.intro) hs ⟨q, hq⟩ (dk_new (Nat.le_trans (length_mergeK ls ks) sz) hd (rel2.merge rel) d1)
theorem mt_update8 (σ' : L2.St) : MtR X "dict.update" (rMt M X.K Wx σ' .update) := by
  intro pins s σ H x vs v us Q I rx rv hh
  obtain ⟨d, ds, h, as, hi, r1, rs, p⟩ := hh
  simp only [methD] at p
  split at p
  · rename_i nn mm
    simp only [Rep] at r1
    obtain ⟨a, rfl, ea⟩ := r1
    obtain ⟨w, _, rfl, r2, rn⟩ := rs.cons_inv
    obtain rfl := rn.nil_inv
    simp only [Rep] at r2
    obtain ⟨b, rfl, eb⟩ := r2
    split at p
    · rename_i ks lk ls e1 e2
      split at p
      · rename_i hl
        obtain ⟨kv, h1, hr⟩ := hi.ob nn _ a e1 ea
        obtain ⟨lv, h2, hz⟩ := hi.ob mm _ b e2 eb
        simp only [lkd, Bool.false_eq_true, if_false] at h1
        cases rx
        obtain ⟨u, eu, rx⟩ := vals1 rv
        subst eu
        cases rx
        have hne : a ≠ b := fun q => hl.1 ((List.getElem?_inj (List.getElem?_eq_some_iff.mp ea).1 hi.nd).mp (by rw [ea, eb, q]))
        refine d_upd I h1 h2.rd hne (by rw [← hr.length, ← hz.length]; exact hl.2) fun s' I' => ?_
        have ex := ext_set (o := HO.dK (mergeK kv lv)) ea h1 (fun _ => by intro z; cases z) (fun _ _ => by intro z; cases z)
        refine ⟨.non, _, I', rfl, p _ as _ ex (hi.set ea h1 (fun _ => by intro z; cases z) (fun _ _ => by intro z; cases z) ⟨_, ?_, (RepKV.mrg hz hr).mono ex⟩) (by simp only [Rep])⟩
        simp only [lkd, Bool.false_eq_true, if_false]; exact upd_same
      · exact p.elim
    · exact p.elim
  · exact p.elim
theorem mt_isalnum8 (σ' : L2.St) : MtR X "str.isalnum" (rMt M X.K Wx σ' .isalnum) := by
  intro pins s σ H x xs v us Q I rx rv hh
  obtain ⟨d, ds, h, as, hi, r1, rs, p⟩ := hh
  simp only [methD] at p
  split at p
  · simp only [Rep] at r1
    subst r1
    obtain rfl := rs.nil_inv
    exact mt_isalnum pins s σ H _ _ v us Q I rx rv ⟨_, rfl, rfl, trivial, p _ as H Ext.refl hi (by simp only [Rep])⟩
  · exact p.elim
theorem mt_lower8 (σ' : L2.St) : MtR X "str.lower" (rMt M X.K Wx σ' .lower) := by
  intro pins s σ H x xs v us Q I rx rv hh
  obtain ⟨d, ds, h, as, hi, r1, rs, p⟩ := hh
  simp only [methD] at p
  split at p
  · split at p
    · rename_i hc
      simp only [Rep] at r1
      subst r1
      obtain rfl := rs.nil_inv
      refine mt_lower pins s σ H _ _ v us Q I rx rv ⟨_, rfl, rfl, by have := hc.1; simp only [st, Str.length, List.size_toArray, List.length_map]; omega, p _ as H Ext.refl hi (by simp only [Rep]; rw [hc.2])⟩
    · exact p.elim
  · exact p.elim
theorem mt_startswith8 (σ' : L2.St) : MtR X "str.startswith" (rMt M X.K Wx σ' .startswith) := by
  intro pins s σ H x xs v us Q I rx rv hh
  obtain ⟨d, ds, h, as, hi, r1, rs, p⟩ := hh
  simp only [methD] at p
  split at p
  · simp only [Rep] at r1
    subst r1
    obtain ⟨w, _, rfl, r2, rn⟩ := rs.cons_inv
    obtain ⟨w2, _, rfl, r3, rn⟩ := rn.cons_inv
    obtain rfl := rn.nil_inv
    simp only [Rep] at r2 r3
    subst r2 r3
    exact mt_startswith3 pins s σ H _ _ v us Q I rx rv ⟨_, _, _, rfl, rfl, p _ as H Ext.refl hi (by simp only [Rep])⟩
  · exact p.elim
theorem mt_find8 (σ' : L2.St) : MtR X "str.find" (rMt M X.K Wx σ' .find) := by
  intro pins s σ H x xs v us Q I rx rv hh
  obtain ⟨d, ds, h, as, hi, r1, rs, p⟩ := hh
  simp only [methD] at p
  split at p
  · simp only [Rep] at r1
    subst r1
    obtain ⟨w, _, rfl, r2, rn⟩ := rs.cons_inv
    obtain ⟨w2, _, rfl, r3, rn⟩ := rn.cons_inv
    obtain rfl := rn.nil_inv
    simp only [Rep] at r2 r3
    subst r2 r3
    exact mt_find3 pins s σ H _ _ v us Q I rx rv ⟨_, _, _, rfl, rfl, p _ as H Ext.refl hi (by simp only [Rep])⟩
  · exact p.elim
/-- one method's rule, in place -/
structure MtOk (X : Cx) (M : Mx) (Wx : WX) (k : Mt) (id : String) : Prop where
  pa : PlainAttrs (mtT k)
  slot : Slot (mtT k) (Str.ofString (mtN k)) id
  ty : typeOf (.builtin id) = pure (.type "method_descriptor")
  run : ∀ σ, MtR X id (rMt M X.K Wx σ k)
theorem mt_known {d : D} {m : String} {h : Hs} {k : Mt} (e : mtOf d m h = some k) : ∃ id, MtOk X M Wx k id := by
  cases d with
  | ob nn =>
    simp only [mtOf] at e
    split at e
    · (repeat' split at e) <;> first
        | (cases e; done)
        | (cases e; exact ⟨_, PySem.F.plainAttrs_list, PySem.F.slot_list_append, PySem.F.type_list_append, mt_append8⟩)
        | (cases e; exact ⟨_, PySem.F.plainAttrs_list, PySem.F.slot_list_reverse, PySem.F.type_list_reverse, mt_reverse8⟩)
        | (cases e; exact ⟨_, PySem.F.plainAttrs_list, PySem.F.slot_list_extend, PySem.F.type_list_extend, mt_extend8⟩)
        | (cases e; exact ⟨_, PySem.F.plainAttrs_list, PySem.F.slot_list_pop, PySem.F.type_list_pop, mt_pop8⟩)
        | (cases e; exact ⟨_, PySem.F.plainAttrs_list, PySem.F.slot_list_insert, PySem.F.type_list_insert, mt_insert8⟩)
    · split at e
      · cases e
        exact ⟨_, PySem.F.plainAttrs_dict, PySem.F.slot_dict_update, PySem.F.type_dict_update, mt_update8⟩
      · cases e
    · cases e
  | str z =>
    simp only [mtOf] at e
    (repeat' split at e) <;> first
      | (cases e; done)
      | (cases e; exact ⟨_, PySem.F.plainAttrs_str, PySem.F.slot_str_isalnum, PySem.F.type_str_isalnum, mt_isalnum8⟩)
      | (cases e; exact ⟨_, PySem.F.plainAttrs_str, PySem.F.slot_str_startswith, PySem.F.type_str_startswith, mt_startswith8⟩)
      | (cases e; exact ⟨_, PySem.F.plainAttrs_str, PySem.F.slot_str_find, PySem.F.type_str_find, mt_find8⟩)
      | (cases e; exact ⟨_, PySem.F.plainAttrs_str, PySem.F.slot_str_lower, PySem.F.type_str_lower, mt_lower8⟩)
  | _ => simp [mtOf] at e
theorem se_met (K : Cok X M C sc n Wx cf) (hh : C.hot = false) {o : E} {m : String} {es : List E} {y : Expr} {ap cp : Pos} {xs : List Expr} (ho : SE M X Wx cf o y) (hb : notBare y = true) (hl : (ap.endLine == cp.line) = true) (hx : chkEs C es sc xs = true) (hn : xs.length < 20) (ha : PA X xs (tEs (M.g X.K) Wx (evalEs M.W cf M.cx es))) :
    PE X (.Call (.Attribute y (Str.ofString m) ap) xs [] cp) (tE (M.g X.K) Wx (evalE M.W cf M.cx (.met o m es))) := by
  refine ⟨fun pins s σ H Q I h => ?_⟩
  obtain ⟨σI, h, as, sl, hi, p⟩ := h
  have hform : methodCallForm (xs.length + ([] : List Keyword).length) (backTo cp (starEach xs X.env)) (backToKw cp (keywordEach [] X.env)) = true := by
    unfold methodCallForm
    rw [chkEs_form hx]
    show (true && true && decide (xs.length + 0 + 0 < 30)) = true
    simp; omega
  by_cases hins : ∃ d h1 c fs, evalE M.W cf M.cx o σI h = .ok d h1 ∧ isIns d h1 = some (c, fs)
  · obtain ⟨d, h1, c, fs, e1, e2⟩ := hins
    simp only [evalE] at p
    refine PySem.W.methodCall_KW (pl := (do return (← importBound y X.env).getD true)) (thn (ho.1.run pins s σ H _ I (then1 sl hi p)) fun u s1 ⟨x, H1, I1, rx, q⟩ => ?_) (mcall (bare_ok hb) hform hl)
    obtain ⟨d', h1', as1, e1', x1, sl1, i1, r1, p1⟩ := q
    rw [e1] at e1'; cases e1'
    simp only [e2] at p1
    split at p1
    · rename_i f e3
      split at p1
      · rename_i hno
        cases d with
        | ob mm =>
          have r1' := r1
          simp only [Rep] at r1
          obtain ⟨a, rfl, ea⟩ := r1
          obtain rfl : u = Value.ref a := rx
          simp only [isIns] at e2
          split at e2
          · rename_i c' fs' e4
            cases e2
            obtain ⟨Ca, dx, vs, ec, eo, rf⟩ := i1.ob mm _ a e4 ea
            cases e5 : M.W.cls[c]? with
            | none => rw [e5] at e3; cases e3
            | some ci =>
              rw [e5] at e3
              simp only [Option.bind_some] at e3
              obtain ⟨c1, _, c3⟩ := (K.cool hh).cls c ci e5 Ca ec
              obtain ⟨ma, hm, B⟩ := c3 m f e3
              have hl2 : vs.lookup (Str.ofString m) = none := by
                rcases rf.lookup m with ⟨_, e⟩ | ⟨dd, v, e, _⟩
                · exact e
                · rw [e] at hno; cases hno
              refine getmeth_ok I1 eo c1 hm hl2 ?_
              cases xs with
              | nil =>
                cases es with
                | cons e es => simp [chkEs] at hx
                | nil =>
                  refine PySem.W.callWith_K0 (first := [.ref a]) I1.kIn hm.kp (run_cal (us := [.ref a]) (vs := [.ref a]) K hh B I1 (.cons rfl .nil) i1 (Reps.one r1') ?_)
                  exact p1
              | cons y ys =>
                cases es with
                | nil => simp [chkEs] at hx
                | cons e es =>
                  simp only [chkEs, Bool.and_eq_true, Bool.not_eq_true'] at hx
                  refine PySem.W.callWith_K (first := [.ref a]) (h₀ := X.base) I.ok.mod.kin hm.kp (thn (ha.run cp pins s1 σ H1 _ I1 (thens sl1 i1 p1)) fun us s2 ⟨vs2, H2, I2, r, q2⟩ => ⟨I2.kIn, ?_⟩) (star_one hx.1.2 _ _) (chkEs_star hx.2)
                  obtain ⟨ds, h2, as2, _, x2, _, i2, rs, p2⟩ := q2
                  refine run_cal (us := .ref a :: us) (vs := .ref a :: vs2) K hh B I2 (.cons rfl r) i2 ?_ p2
                  simp only [Reps]
                  exact ⟨_, _, rfl, r1'.mono x2, rs⟩
          · cases e2
        | _ => simp [isIns] at e2
      · exact p1.elim
    · exact p1.elim
  · simp only [evalE] at p
    by_cases hbm : ∃ d h1 k, evalE M.W cf M.cx o σI h = .ok d h1 ∧ isIns d h1 = none ∧ mtOf d m h1 = some k
    · obtain ⟨d, h1, k, e1, e2, e3⟩ := hbm
      obtain ⟨id, mk⟩ := mt_known (X := X) (M := M) (Wx := Wx) e3
      have hmn : m = mtN k := by
        cases d with
        | ob nn =>
          simp only [mtOf] at e3
          split at e3
          · (repeat' split at e3) <;> first
              | (cases e3; done)
              | (cases e3; assumption)
          · split at e3
            · cases e3; assumption
            · cases e3
          · cases e3
        | str z =>
          simp only [mtOf] at e3
          (repeat' split at e3) <;> first
            | (cases e3; done)
            | (cases e3; assumption)
        | _ => simp [mtOf] at e3
      subst hmn
      cases xs with
      | nil =>
        cases es with
        | cons e es => simp [chkEs] at hx
        | nil =>
          refine (pe_bm0 mk.pa mk.slot mk.ty (mk.run σ) ho.1 (bare_ok hb) hl).run pins s σ H Q I ?_
          obtain ⟨q1, q2, q3, sl', hi', p'⟩ := then1 sl hi p
          refine ⟨q1, q2, q3, sl', hi', p'.imp ?_⟩
          rintro x H1 ⟨d', h1', as1, e1', x1, sl1, i1, r1, p1⟩
          rw [e1] at e1'; cases e1'
          simp only [e2, e3] at p1
          exact ⟨(mtOf_ok i1 r1 e3).2, d, [], h1, as1, i1, r1, by simp only [Reps], p1⟩
      | cons y ys =>
        cases es with
        | nil => simp [chkEs] at hx
        | cons e es =>
          have hx' := hx
          simp only [chkEs, Bool.and_eq_true, Bool.not_eq_true'] at hx
          have hf2 : ((backTo cp (starEach (y :: ys) X.env)).all (fun x => !x.1) && (backToKw cp (keywordEach [] X.env)).all (fun x => x.1.isSome)
              && decide ((y :: ys).length + ([] : List Keyword).length + (if ([] : List Keyword).isEmpty then 0 else 1) < 30)) = true := by
            rw [chkEs_form hx']
            show (true && true && decide ((y :: ys).length + 0 + 0 < 30)) = true
            have : decide ((y :: ys).length + 0 + 0 < 30) = true := decide_eq_true (by omega)
            rw [this]; rfl
          refine (pe_bm mk.pa mk.slot mk.ty (mk.run σ) ho.1 ha (bare_ok hb) hf2 hl (star_one hx.1.2 _ _) (chkEs_star hx.2)).run pins s σ H Q I ?_
          obtain ⟨q1, q2, q3, sl', hi', p'⟩ := then1 sl hi p
          refine ⟨q1, q2, q3, sl', hi', p'.imp ?_⟩
          rintro x H1 ⟨d', h1', as1, e1', x1, sl1, i1, r1, p1⟩
          rw [e1] at e1'; cases e1'
          simp only [e2, e3] at p1
          refine ⟨(mtOf_ok i1 r1 e3).2, ?_⟩
          obtain ⟨q1, q2, q3, sl', hi', p'⟩ := thens sl1 i1 p1
          refine ⟨q1, q2, q3, sl', hi', p'.imp ?_⟩
          rintro vs H2 ⟨ds, h2, as2, _, x2, _, i2, rs, p2⟩
          exact ⟨d, ds, h2, as2, i2, r1.mono x2, rs, p2⟩
    · -- it comes to no end but by an error in o
      refine PySem.W.methodCall_KW (pl := (do return (← importBound y X.env).getD true)) (thn (ho.1.run pins s σ H _ I (then1 sl hi p)) fun u s1 ⟨x, H1, I1, rx, q⟩ => ?_) (mcall (bare_ok hb) hform hl)
      obtain ⟨d, h1, as1, e1, x1, sl1, i1, r1, p1⟩ := q
      exfalso
      cases e2 : isIns d h1 with
      | some cf' => exact hins ⟨d, h1, cf'.1, cf'.2, e1, e2⟩
      | none =>
        rw [e2] at p1
        simp only at p1
        cases e3 : mtOf d m h1 with
        | none => rw [e3] at p1; exact p1
        | some k => exact hbm ⟨d, h1, k, e1, e2, e3⟩
end
end Rf
end

section
namespace Rf
open PySem PySem.Spec PyProof.Rows L2

/-! ## what is walked -/
def WalkOk (G : Gx) (J : It) (items : List D) (g : Gd) (as0 : List Addr) (H0 : Hp) : Prop :=
  ∀ i h as H, Ext as0 H0 as H → HI G h as H → same g h →
    (items.length ≤ i → J.stop i H) ∧ (∀ d, items[i]? = some d → J.go i H ∧ ∀ x H', J.yld i H x H' → ∃ as', Ext as H as' H' ∧ HI G h as' H' ∧ Rep G as' H' d x)
/-- a dict that this body has locked; H: ahead of it -/
def GdOk (X : Cx) (g : Gd) (as : List Addr) (H : Hp) : Prop := match g with
  | .lock n _ _ => ∃ a, as[n]? = some a ∧ (∀ o u, X.H_0 a ≠ some (.frz o u)) ∧ ∀ o u, H a ≠ some (.frz o u)
  | _ => True
def rW (X : Cx) (M : Mx) : List Addr → Hp → List D × Gd × Hs → It → Prop := fun as H ig J => HI (M.g X.K) ig.2.2 as H ∧ WalkOk (M.g X.K) J ig.1 ig.2.1 as H
/-- the reading of what is walked: the outcome's own heap is forgotten, the items' heap counts -/
def postW (X : Cx) (M : Mx) (Wx : WX) (as : List Addr) (H : Hp) (σ : L2.St) (r : R (List D × Gd × Hs)) (Q : It → Hp → Prop) : Prop :=
  match r with
  | .ok ig _ => ∀ J as' H', Ext as H as' H' → rW X M as' H' ig J → GdOk X ig.2.1 as' H → Q J H'
  | .exc c fs h' => ∀ C dx vs as' H', Ext as H as' H' → HI (M.g X.K) h' as' H' → M.ca c = some C → H' dx = some (.xd vs) → RepF (M.g X.K) as' H' fs vs → Wx (.ref C) (some dx) σ H'
  | .no => False
def tI (X : Cx) (M : Mx) (Wx : WX) (ev : Sg → Hs → R (List D)) (k : Ik) : TI := fun σ H Q => ∃ σI h as, SL (M.g X.K) σI as H σ ∧ HI (M.g X.K) h as H ∧ postW X M Wx as H σ ((ev σI h).bind fun xs h => ofO (itemsI M.W.cons k xs h) h) Q
section
variable {X : Cx} {M : Mx} {C : Ck} {sc : Scope} {n : Nat} {Wx : WX} {cf : CF}
theorem pi_imp {tg e : Expr} {t t' : TI} (h : PI X tg e t) (i : ∀ σ H Q, t' σ H Q → t σ H Q) : PI X tg e t' := ⟨fun pins s σ H Q I q => h.run pins s σ H Q I (i σ H Q q)⟩
theorem RepKV.at {as : List Addr} {H : Hp} : ∀ {kvs : List (D × D)} {kv : List (Key × V)} {i : Nat} {d : D}, RepKV keyK (M.g X.K) as H kvs kv → (kvs.map (·.1))[i]? = some d → ∃ k v, kv[i]? = some (k, v) ∧ Rep (M.g X.K) as H d (kV k)
  | _, _, _, _, .nil, e => by simp at e
  | (a, b) :: kvs, (x, v) :: kv, 0, d, .cons h t, e => by
    simp at e; subst e
    refine ⟨x, v, rfl, ?_⟩
    have e1 := h.1
    simp only at e1
    cases a <;> simp only [keyK, Option.some.injEq, reduceCtorEq] at e1 <;> subst e1 <;> simp only [Rep, kV]
  | (a, b) :: kvs, (x, v) :: kv, i + 1, d, .cons h t, e => by
    simpa using RepKV.at t (by simpa using e)
/-- a locked dict's keys -/
theorem walk_keys {a : Addr} {od : Obj} {kv : List (Key × V)} {kvs : List (D × D)} {as : List Addr} {H : Hp} {m : Nat} {g : Gd} (hl : H a = some (.frz od (.dK kv))) (hk : RepKV keyK (M.g X.K) as H kvs kv) : WalkOk (M.g X.K) (Itk a od kv) (kvs.map (·.1)) g as H := by
  intro i h3 as3 H3 x3 i3 _
  have hl3 := x3.frz _ _ _ hl
  have hk3 := hk.mono x3
  refine ⟨fun hh => ⟨hl3, by rw [List.length_map, hk.length] at hh; exact hh⟩, fun d hd => ?_⟩
  obtain ⟨k, v, e, r⟩ := RepKV.at hk3 hd
  refine ⟨⟨hl3, (List.getElem?_eq_some_iff.mp e).1⟩, ?_⟩
  rintro y H4 ⟨rfl, k', v', e', rfl⟩
  rw [e] at e'; cases e'
  exact ⟨as3, Ext.refl, i3, r⟩
/-- the lock -/
theorem pe_lockd {e : Expr} {t : TE} (h : PE X e t) : PE X e (fun σ H Q => t σ H fun v H1 => ∃ d u, v = .ref d ∧ H1 d = some u ∧ Mut (some u) ∧ ∀ od, (∀ o' u', X.H_0 d ≠ some (.frz o' u')) → Q (.ref d) (upd H1 d (.frz od u))) := by
  refine ⟨fun pins s σ H Q I q => ?_⟩
  refine thn (h.run pins s σ H _ I q) ?_
  rintro v s1 ⟨x, H1, I1, r1, d, u, rfl, e, mu, k⟩
  obtain ⟨od, I2⟩ := I1.lock e mu
  exact ⟨.ref d, _, I2, r1, k od (I1.nofrz e mu)⟩
theorem HI.lock {h : Hs} {as : List Addr} {H : Hp} {m : Nat} {a : Addr} {od : Obj} {kvs : List (D × D)} {kv : List (Key × V)} (hi : HI (M.g X.K) h as H) (ea : as[m]? = some a) (hl : H a = some (.dK kv)) (hk : RepKV keyK (M.g X.K) as H kvs kv) :
    Ext as H as (upd H a (.frz od (.dK kv))) ∧ HI (M.g X.K) (h.set m (.dic true false kvs)) as (upd H a (.frz od (.dK kv))) := by
  have ex := ext_set (o := HO.frz od (.dK kv)) ea hl (fun _ => by intro z; cases z) (fun _ _ => by intro z; cases z)
  refine ⟨ex, hi.set ea hl (fun _ => by intro z; cases z) (fun _ _ => by intro z; cases z) ⟨kv, ?_, hk.mono ex⟩⟩
  simp only [lkd, if_true]
  exact ⟨od, upd_same⟩
/-- an expression's value, walked -/
theorem pi_seq (K : Cok X M C sc n Wx cf) {a : E} {tg x : Expr} (ha : SE M X Wx cf a x) : PI X tg x (tI X M Wx (evalEs M.W cf M.cx [a]) .seq) := by
  refine ⟨fun pins s σ H Q I h => ?_⟩
  obtain ⟨σI, h, as, sl, hi, p⟩ := h
  simp only [evalEs, R.bind_assoc] at p
  -- by what it comes to
  cases e1 : evalE M.W cf M.cx a σI h with
  | no => rw [e1] at p; exact p.elim
  | exc c fs h1 =>
    rw [e1] at p
    refine (pi_tup (tl := tE (M.g X.K) Wx (evalE M.W cf M.cx a)) ha.1).run pins s σ H Q I ⟨σI, h, as, sl, hi, ?_⟩
    rw [e1]; exact p
  | ok d h1 =>
    rw [e1] at p
    simp only [R.bind_ok] at p
    have at1 : ∀ {R' : V → Hp → Prop}, (∀ v as' H', Ext as H as' H' → HI (M.g X.K) h1 as' H' → Rep (M.g X.K) as' H' d v → R' v H') → tE (M.g X.K) Wx (evalE M.W cf M.cx a) σ H R' :=
      fun k => ⟨σI, h, as, sl, hi, by rw [e1]; exact k⟩
    cases d with
    | tup ds =>
      simp only [itemsI, ofO_some] at p
      refine (pi_tup ha.1).run pins s σ H Q I (at1 fun v as' H' x' i' r' => ?_)
      simp only [Rep] at r'
      obtain ⟨a, vs, rfl, h2, hr⟩ := r'
      refine ⟨a, rfl, ⟨vs, SqT.of h2⟩, p _ as' H' x' ⟨i', ?_⟩ trivial⟩
      intro i h3 as3 H3 x3 i3 _
      have sq := SqT.of (K := X.K) (x3.tup _ _ h2)
      refine ⟨fun hl => ⟨vs, sq, by rw [← hr.length]; exact hl⟩, fun d hd => ?_⟩
      obtain ⟨w, e, rw_⟩ := hr.get hd
      refine ⟨⟨vs, w, sq, e⟩, ?_⟩
      rintro y H4 ⟨rfl, hy⟩
      have := hy vs sq
      rw [e] at this; cases this
      exact ⟨as3, Ext.refl, i3, rw_.mono x3⟩
    | con g =>
      simp only [itemsI] at p
      cases e2 : M.W.cons[g]? with
      | none => rw [e2] at p; exact p.elim
      | some ys =>
        rw [e2] at p
        simp only [Option.map_some, ofO_some] at p
        refine (pi_tup ha.1).run pins s σ H Q I (at1 fun v as' H' x' i' r' => ?_)
        simp only [Rep] at r'
        obtain ⟨a, rfl, h2⟩ := r'
        obtain ⟨vs, hv, _⟩ := K.con g ys a e2 h2
        refine ⟨a, rfl, ⟨vs, (hv H' as').1⟩, p _ as' H' x' ⟨i', ?_⟩ trivial⟩
        intro i h3 as3 H3 x3 i3 _
        have sq := (hv H3 as3).1
        have hr := (hv H3 as3).2
        refine ⟨fun hl => ⟨vs, sq, by rw [← hr.length]; exact hl⟩, fun d hd => ?_⟩
        obtain ⟨w, e, rw_⟩ := hr.get hd
        refine ⟨⟨vs, w, sq, e⟩, ?_⟩
        rintro y H4 ⟨rfl, hy⟩
        have := hy vs sq
        rw [e] at this; cases this
        exact ⟨as3, Ext.refl, i3, rw_⟩
    | ob m =>
      have list_ : ∀ {ds : List D} {mo : MO}, (h1[m]? = some (.lst ds) ∧ mo = .lst ds) ∨ (∃ ns : List Int, h1[m]? = some (.scr ns) ∧ ds = ns.map D.int ∧ mo = .scr ns) → postW X M Wx as H σ (.ok (ds, .keep m mo, h1) h1) Q →
          wpAny (model X.prog X.w) X.A (eval x X.env) (fun v s1 => wpAny (model X.prog X.w) X.A (pyIter v) (PIE X pins σ tg Q) X.xe s1) X.xe s := by
        intro ds mo e p
        refine (pi_list ha.1).run pins s σ H Q I (at1 fun v as' H' x' i' r' => ?_)
        simp only [Rep] at r'
        obtain ⟨a, rfl, ea⟩ := r'
        have e' : h1[m]? = some (.lst ds) ∨ ∃ ns : List Int, h1[m]? = some (.scr ns) ∧ ds = ns.map D.int := by
          rcases e with ⟨e, _⟩ | ⟨ns, e, e2, _⟩
          · exact .inl e
          · exact .inr ⟨ns, e, e2⟩
        obtain ⟨vs, sq, hr⟩ := lst_of i' e' ea
        refine ⟨a, rfl, ⟨vs, sq⟩, p _ as' H' x' ⟨i', ?_⟩ trivial⟩
        intro i h3 as3 H3 x3 i3 sm
        have e3 : h3[m]? = some (.lst ds) ∨ ∃ ns : List Int, h3[m]? = some (.scr ns) ∧ ds = ns.map D.int := by
          rcases e with ⟨e, rfl⟩ | ⟨ns, e, e2, rfl⟩
          · exact .inl sm
          · exact .inr ⟨ns, sm, e2⟩
        obtain ⟨vs, sq, hr⟩ := lst_of i3 e3 (x3.pre _ _ ea)
        refine ⟨fun hl => ⟨vs, sq, by rw [← hr.length]; exact hl⟩, fun d hd => ?_⟩
        obtain ⟨w, e, rw_⟩ := hr.get hd
        refine ⟨⟨vs, w, sq, e⟩, ?_⟩
        rintro y H4 ⟨rfl, hy⟩
        have := hy vs sq
        rw [e] at this; cases this
        exact ⟨as3, Ext.refl, i3, rw_⟩
      simp only [itemsI] at p
      split at p
      · rename_i ds e2
        exact list_ (.inl ⟨e2, rfl⟩) p
      · rename_i ns e2
        exact list_ (.inr ⟨ns, e2, rfl, rfl⟩) p
      · rename_i kvs e2
        -- a locked dict
        refine (pi_keys ha.1).run pins s σ H Q I (at1 fun v as' H' x' i' r' => ?_)
        simp only [Rep] at r'
        obtain ⟨a, rfl, ea⟩ := r'
        obtain ⟨kv, hl, hk⟩ := i'.ob m _ a e2 ea
        simp only [lkd, if_true] at hl
        obtain ⟨od, hl⟩ := hl
        exact ⟨a, od, rfl, .inl ⟨kv, hl, p _ as' H' x' ⟨i', walk_keys (m := m) hl hk⟩ trivial⟩⟩
      · rename_i kvs e2
        refine (pi_keys (pe_lockd ha.1)).run pins s σ H Q I (at1 fun v as' H' x' i' r' => ?_)
        simp only [Rep] at r'
        obtain ⟨a, rfl, ea⟩ := r'
        obtain ⟨kv, hl, hk⟩ := i'.ob m _ a e2 ea
        simp only [lkd, Bool.false_eq_true, if_false] at hl
        refine ⟨a, _, rfl, hl, True.intro, fun od nf => ⟨a, od, rfl, .inl ⟨kv, upd_same, ?_⟩⟩⟩
        obtain ⟨ex, i2⟩ := i'.lock (od := od) ea hl hk
        refine p _ as' _ (x'.trans ex) ⟨i2, walk_keys (m := m) upd_same (hk.mono ex)⟩ ?_
        exact ⟨a, ea, nf, fun o u q => by rw [x'.frz _ _ _ q] at hl; cases hl⟩
      · exact p.elim
    | _ => exact p.elim
/-- ranges -/
theorem walk_range {lo : Int} {n : Nat} {as : List Addr} {H : Hp} : WalkOk (M.g X.K) (Itr lo n) ((List.range n).map fun (k : Nat) => D.int (lo + (k : Int))) .none as H := by
  intro i h3 as3 H3 x3 i3 _
  refine ⟨fun hh => (by rw [List.length_map, List.length_range] at hh; exact hh), fun d hd => ?_⟩
  rw [List.getElem?_map] at hd
  obtain ⟨k, hk, rfl⟩ := Option.map_eq_some_iff.mp hd
  have hlt : i < n := by simpa using (List.getElem?_eq_some_iff.mp hk).1
  rw [List.getElem?_range hlt] at hk
  cases hk
  refine ⟨hlt, ?_⟩
  rintro y H4 ⟨rfl, rfl⟩
  exact ⟨as3, Ext.refl, i3, by simp only [Rep]⟩
theorem pi_rng1 (K : Cok X M C sc n Wx cf) {es : List E} {tg x : Expr} {p pos : Pos} (hg : glB sc (Str.ofString "range") = true) (hs : isStar x = false) (ha : PA X [x] (tEs (M.g X.K) Wx (evalEs M.W cf M.cx es))) : PI X tg (.Call (.Name (Str.ofString "range") p) [x] [] pos) (tI X M Wx (evalEs M.W cf M.cx es) .rng1) := by
  refine ⟨fun pins s σ H Q I h => ?_⟩
  obtain ⟨σI, h, as, sl, hi, p⟩ := h
  refine (pi_range1 (K.gl _ hg) (K.bl _ (by decide +kernel)) ha (by rw [star_one hs]; rfl)).run pins s σ H Q I ?_
  refine ⟨σI, h, as, sl, hi, ?_⟩
  cases e1 : evalEs M.W cf M.cx es σI h with
  | no => rw [e1] at p; exact p.elim
  | exc c fs h1 => rw [e1] at p; exact p
  | ok ds h1 =>
    rw [e1] at p
    simp only [R.bind_ok] at p
    intro vs as' H' x' i' r'
    match ds with
    | [] => exact p.elim
    | [d] =>
      obtain ⟨v, _, rfl, r1, rn⟩ := r'.cons_inv
      obtain rfl := rn.nil_inv
      cases d with
      | int j =>
        simp only [Rep] at r1
        subst r1
        simp only [itemsI] at p
        split at p
        · rename_i hj
          refine ⟨j, rfl, hj.1, hj.2, p _ as' H' x' ⟨i', walk_range⟩ trivial⟩
        · exact p.elim
      | _ => exact p.elim
    | d0 :: _ :: _ => cases d0 <;> exact p.elim
theorem pi_rng2 (K : Cok X M C sc n Wx cf) {es : List E} {tg x y : Expr} {p pos : Pos} (hg : glB sc (Str.ofString "range") = true) (hs : isStar x = false) (hs2 : isStar y = false) (ha : PA X [x, y] (tEs (M.g X.K) Wx (evalEs M.W cf M.cx es))) : PI X tg (.Call (.Name (Str.ofString "range") p) [x, y] [] pos) (tI X M Wx (evalEs M.W cf M.cx es) .rng2) := by
  refine ⟨fun pins s σ H Q I h => ?_⟩
  obtain ⟨σI, h, as, sl, hi, p⟩ := h
  refine (pi_range2 (K.gl _ hg) (K.bl _ (by decide +kernel)) ha (by rw [star_one hs, star_one hs2]; rfl) (by rw [star_one hs2]; rfl)).run pins s σ H Q I ?_
  refine ⟨σI, h, as, sl, hi, ?_⟩
  cases e1 : evalEs M.W cf M.cx es σI h with
  | no => rw [e1] at p; exact p.elim
  | exc c fs h1 => rw [e1] at p; exact p
  | ok ds h1 =>
    rw [e1] at p
    simp only [R.bind_ok] at p
    intro vs as' H' x' i' r'
    match ds with
    | [] => exact p.elim
    | [d] => cases d <;> exact p.elim
    | [d, d'] =>
      obtain ⟨v, _, rfl, r1, rn⟩ := r'.cons_inv
      obtain ⟨v', _, rfl, r2, rn⟩ := rn.cons_inv
      obtain rfl := rn.nil_inv
      cases d <;> cases d' <;> try exact p.elim
      simp only [Rep] at r1 r2
      subst r1 r2
      simp only [itemsI] at p
      split at p
      · rename_i i j hj
        refine ⟨_, _, rfl, hj, p _ as' H' x' ⟨i', walk_range⟩ trivial⟩
      · exact p.elim
    | d0 :: d1 :: _ :: _ => cases d0 <;> cases d1 <;> exact p.elim
end
end Rf
end

section
namespace Rf
open PySem PySem.Spec PyProof.Rows L2

section
variable {X : Cx} {M : Mx} {C : Ck} {sc : Scope} {n : Nat} {Wx : WX} {cf : CF} {cx : CXI}
/-! ## targets -/
/-- a target takes a value -/
def gT (G : Gx) (t : Tg) : TG := fun v σ H Q => ∃ σI h as d σ1, SL G σI as H σ ∧ HI G h as H ∧ Rep G as H d v ∧ bindT t d σI = some σ1 ∧ ∀ σ2, SL G σ1 as H σ2 → (∀ i, i ∉ tgIx t → σ2[i]? = σ[i]?) → Q σ2 H
theorem SL.set {G : Gx} {σI : Sg} {as : List Addr} {H : Hp} {σ : L2.St} {i : Nat} {d : D} {v : V} (s : SL G σI as H σ) (r : Rep G as H d v) : SL G (σI.set i (some d)) as H (σ.set i (some v)) := by
  refine ⟨by simp [s.len], fun j d' e => ?_, fun j a he e => ?_⟩
  rotate_left
  · by_cases hj : j = i
    · subst hj
      have hl : j < σI.length := by
        have := (List.getElem?_eq_some_iff.mp e).1
        simpa using this
      rw [List.getElem?_set_self hl] at e
      cases e
    · rw [List.getElem?_set_ne (Ne.symm hj)] at e
      rw [List.getElem?_set_ne (Ne.symm hj)]
      exact s.ex j a he e
  by_cases hj : j = i
  · subst hj
    have hl : j < σI.length := by
      have := (List.getElem?_eq_some_iff.mp e).1
      simpa using this
    rw [List.getElem?_set_self hl] at e
    cases e
    exact ⟨v, by rw [List.getElem?_set_self (by rw [← s.len]; exact hl)], r⟩
  · rw [List.getElem?_set_ne (Ne.symm hj)] at e
    obtain ⟨w, e2, r2⟩ := s.at_ j d' e
    exact ⟨w, by rw [List.getElem?_set_ne (Ne.symm hj)]; exact e2, r2⟩
theorem pg_names (K : Cok X M C sc n Wx cf) : ∀ {is : List Nat} {es : List Expr}, is.length = es.length → ((is.zip es).all fun p => nmB C sc p.1 p.2) = true →
    PGs X es (fun vs σ H Q => vs.length = es.length ∧ Q ((is.zip vs).foldl (fun σ p => σ.set p.1 (some p.2)) σ) H)
  | [], [], _, _ => ⟨fun pins s σ H vs us Q I r h => by
      obtain ⟨e, h⟩ := h
      cases vs with
      | nil => exact pgs_nil.run pins s σ H [] us Q I r ⟨rfl, h⟩
      | cons a b => simp at e⟩
  | [], _ :: _, h, _ => by simp at h
  | _ :: _, [], h, _ => by simp at h
  | i :: is, e :: es, hl, ha => by
    rw [List.zip_cons_cons, List.all_cons, Bool.and_eq_true] at ha
    obtain ⟨h1, h2⟩ := ha
    have ih := pg_names K (by simpa using hl) h2
    cases e <;> simp only [nmB, Bool.false_eq_true] at h1
    · rename_i x pos
      rw [Bool.and_eq_true] at h1
      obtain ⟨l1, l2⟩ := K.loc x h1.2
      have hg : PG X (.Name x pos) (gName i) := pg_name K.nd (by rw [K.N]; exact isC_ok h1.1) l1 l2
      refine ⟨fun pins s σ H vs us Q I r h => ?_⟩
      obtain ⟨e, h⟩ := h
      cases vs with
      | nil => simp at e
      | cons v vr => exact (pgs_cons hg ih).run pins s σ H (v :: vr) us Q I r ⟨v, vr, rfl, by simpa using e, h⟩
theorem names_len {env : Env} : ∀ {is : List Nat} {es : List Expr}, is.length = es.length → ((is.zip es).all fun p => nmB C sc p.1 p.2) = true →
    (assignEach es env).length = es.length ∧ (assignEach es env).findIdx? (·.1) = none
  | [], [], _, _ => ⟨rfl, rfl⟩
  | [], _ :: _, h, _ => by simp at h
  | _ :: _, [], h, _ => by simp at h
  | i :: is, e :: es, hl, ha => by
    rw [List.zip_cons_cons, List.all_cons, Bool.and_eq_true] at ha
    obtain ⟨h1, h2⟩ := ha
    obtain ⟨a, b⟩ := names_len (env := env) (is := is) (es := es) (by simpa using hl) h2
    cases e <;> simp only [nmB, Bool.false_eq_true] at h1
    · rename_i x pos
      have ee : assignEach (Expr.Name x pos :: es) env = (false, assign (.Name x pos) env) :: assignEach es env := rfl
      rw [ee]
      refine ⟨by rw [List.length_cons, List.length_cons, a], ?_⟩
      rw [List.findIdx?_cons]
      simp only [Bool.false_eq_true, if_false, b, Option.map_none]
theorem SL.folds {G : Gx} {as : List Addr} {H : Hp} : ∀ {is : List Nat} {ds : List D} {vs : List V} {σI : Sg} {σ : L2.St}, SL G σI as H σ → Reps G as H ds vs →
    SL G ((is.zip ds).foldl (fun σ p => σ.set p.1 (some p.2)) σI) as H ((is.zip vs).foldl (fun σ p => σ.set p.1 (some p.2)) σ)
  | [], _, _, _, _, s, _ => by simpa using s
  | i :: is, [], _, _, _, s, r => by simp only [Reps] at r; subst r; simpa using s
  | i :: is, d :: ds, _, _, _, s, r => by
    obtain ⟨v, vs, rfl, h1, h2⟩ := r.cons_inv
    rw [List.zip_cons_cons, List.zip_cons_cons, List.foldl_cons, List.foldl_cons]
    exact SL.folds (s.set h1) h2
theorem folds_out {α : Type} {i : Nat} : ∀ {is : List Nat} {vs : List α} {σ : List (Option α)}, i ∉ is → ((is.zip vs).foldl (fun σ p => σ.set p.1 (some p.2)) σ)[i]? = σ[i]?
  | [], _, _, _ => by simp
  | j :: is, [], _, _ => by simp
  | j :: is, v :: vs, σ, h => by
    rw [List.zip_cons_cons, List.foldl_cons, folds_out (fun q => h (List.mem_cons_of_mem _ q)), List.getElem?_set_ne (fun e => h (by rw [← e]; exact List.mem_cons_self))]
theorem pg_tg (K : Cok X M C sc n Wx cf) {t : Tg} {e : Expr} (h : tgB C sc t e = true) : PG X e (gT (M.g X.K) t) := by
  cases t with
  | nm i =>
    cases e <;> simp only [tgB, nmB, Bool.false_eq_true] at h
    rename_i x pos
    rw [Bool.and_eq_true] at h
    obtain ⟨l1, l2⟩ := K.loc x h.2
    refine ⟨fun pins s σ H v u Q I r q => ?_⟩
    obtain ⟨σI, hh, as, d, σ1, sl, hi, rp, eb, k⟩ := q
    simp only [bindT, Option.some.injEq] at eb
    subst eb
    refine (pg_name K.nd (by rw [K.N]; exact isC_ok h.1) l1 l2).run pins s σ H v u Q I r (k _ (sl.set rp) fun j hj => ?_)
    rw [List.getElem?_set_ne]
    intro q
    exact hj (by simp only [tgIx, List.mem_singleton]; exact q.symm)
  | tp is =>
    cases e <;> simp only [tgB, Bool.false_eq_true] at h
    rename_i es k pos
    simp only [Bool.and_eq_true, beq_iff_eq, Bool.not_eq_true'] at h
    obtain ⟨h, hot⟩ := h
    refine ⟨fun pins s σ H v u Q I r q => ?_⟩
    obtain ⟨σI, hh, as, d, σ1, sl, hi, rp, eb, kk⟩ := q
    cases d with
    | tup ds =>
      simp only [bindT] at eb
      split at eb
      · rename_i hl
        cases eb
        simp only [Rep] at rp
        obtain ⟨a, vs, rfl, h1, hr⟩ := rp
        obtain ⟨n1, n2⟩ := names_len (env := X.env) h.1 h.2
        have hvl : vs.length = es.length := by rw [← hr.length, hl, h.1]
        refine (pg_tup (n := es.length) (K.cool hot).calm (pg_names K h.1 h.2) n1 n2).run pins s σ H _ u Q I r ⟨a, vs, rfl, SqT.of h1, hvl, hvl, kk _ (SL.folds sl hr) fun j hj => folds_out hj⟩
      · cases eb
    | _ => simp [bindT] at eb
/-! ## a comprehension's block -/
theorem free_relabel {sc : Scope} : ∀ {names : List (Str × NameKind)} {x : Str}, names.lookup x = some .free →
    (names.map fun (n, k) => if (k == NameKind.free && sc.kind == .function && sc.names.lookup n == some .cell) then (n, NameKind.cell) else (n, k)).lookup x = some .free ∨
    (names.map fun (n, k) => if (k == NameKind.free && sc.kind == .function && sc.names.lookup n == some .cell) then (n, NameKind.cell) else (n, k)).lookup x = some .cell
  | [], _, h => by simp at h
  | (y, k0) :: r, x, h => by
    have ih := @free_relabel sc r x
    show List.lookup x ((if (k0 == NameKind.free && sc.kind == .function && sc.names.lookup y == some .cell) = true then (y, NameKind.cell) else (y, k0)) :: (r.map _)) = _ ∨ List.lookup x ((if (k0 == NameKind.free && sc.kind == .function && sc.names.lookup y == some .cell) = true then (y, NameKind.cell) else (y, k0)) :: (r.map _)) = _
    by_cases hx : x = y
    · subst hx
      rw [List.lookup_cons, beq_self_eq_true] at h
      simp only at h
      cases h
      split
      · exact .inr (by rw [List.lookup_cons, beq_self_eq_true])
      · exact .inl (by rw [List.lookup_cons, beq_self_eq_true])
    · rw [List.lookup_cons, beq_eq_false_iff_ne.mpr hx] at h
      split
      · rw [List.lookup_cons, beq_eq_false_iff_ne.mpr hx]; exact ih h
      · rw [List.lookup_cons, beq_eq_false_iff_ne.mpr hx]; exact ih h
theorem visB_cases {sc : Scope} {x : Str} (h : visB sc x = true) : sc.names.lookup x = some .local ∨ sc.names.lookup x = some .cell ∨ sc.names.lookup x = some .free := by
  simp only [visB, Bool.or_eq_true] at h
  rcases h with (h | h) | h
  · exact .inl (kindB_ok h)
  · exact .inr (.inl (kindB_ok h))
  · exact .inr (.inr (kindB_ok h))
theorem locB_cases {sc : Scope} {x : Str} (h : locB sc x = true) : sc.names.lookup x = some .local ∨ sc.names.lookup x = some .cell := by
  simp only [locB, Bool.or_eq_true] at h
  rcases h with h | h
  · exact .inl (kindB_ok h)
  · exact .inr (kindB_ok h)
theorem Cok.blk (K : Cok X M C sc n Wx cf) (hh : C.hot = false) (s : Shared) (H : Hp) (scope : Scope) (Cc : Addr) (cl : List (Str × Addr)) (fp : List Addr) :
    Cok (X.blk s H scope (compEnvC scope cl Cc X.env) fp) M C scope n (fun _ _ _ _ => False) cf := by
  have look : ∀ (x : Str) k, k ≠ .free → scope.names.lookup x = some k → (compEnvC scope cl Cc X.env).scope.names.lookup x = some k := fun x k hk h => lookup_relS_keep (sc := X.env.scope) hk h
  have lookf : ∀ (x : Str), scope.names.lookup x = some .free → (compEnvC scope cl Cc X.env).scope.names.lookup x = some .free ∨ (compEnvC scope cl Cc X.env).scope.names.lookup x = some .cell := fun x h => free_relabel (sc := X.env.scope) h
  have k := K.cool hh
  refine ⟨fun _ => ⟨k.calm, k.room, k.nex, k.nxd, k.ncx, k.fns, k.cls, k.mks, k.exs, k.exm⟩, fun _ _ _ _ _ q => (by rw [hh] at q; cases q), K.N, K.nd, fun x h => ?_, fun x h => ?_, fun x h => ?_, look, lookf, K.hu, K.gd, takes0, PassesOwn.never, K.con, K.scr, K.glb, K.bl, K.gs, K.gi⟩
  · rcases visB_cases h with e | e | e
    · exact .inl (look x _ (by decide) e)
    · exact .inr (.inl (look x _ (by decide) e))
    · rcases lookf x e with e | e
      · exact .inr (.inr e)
      · exact .inr (.inl e)
  · rcases locB_cases h with e | e
    · exact ⟨.inl (look x _ (by decide) e), .inr (look x _ (by decide) e)⟩
    · refine ⟨.inr (look x _ (by decide) e), .inl ?_⟩
      show (scope.names.lookup x == some .cell) = true
      rw [e]; rfl
  · exact look x _ (by decide) (kindB_ok h)
theorem blk_ok (K : Cok X M C sc n Wx cf) {scope : Scope} {own : List (Str × Nat)} (h : blkC C.N sc scope own = true) : BlkOk X.N X.env.scope scope own := by
  have b := blkOk_by h
  rw [K.N]
  refine ⟨b.kind, b.uniq, b.ix, fun y hy e => ?_, b.own⟩
  rcases b.free y hy e with e | e
  · exact .inl (K.scn _ _ (by decide) e)
  · rcases K.scf _ e with e | e
    · exact .inr e
    · exact .inl e
end
end Rf
end

section
namespace Rf
open PySem PySem.Spec PyProof.Rows L2

section
variable {X : Cx} {M : Mx} {C : Ck} {sc : Scope} {n : Nat} {Wx : WX} {cf : CF}
/-! ## unlocking -/
def unlQ (X : Cx) (g : Gd) (Q : VK) : VK := fun v H => match g with
  | .lock _ _ _ => ∃ d od u, H d = some (.frz od u) ∧ (∀ o' u', X.H_0 d ≠ some (.frz o' u')) ∧ Q v (upd H d u)
  | _ => Q v H
theorem EP.unl {pins : List (Addr × Obj)} {σ : L2.St} {g : Gd} {Q : VK} {u : Value} {s : Shared} (h : EP X pins σ (unlQ X g Q) u s) : EP X pins σ Q u s := by
  obtain ⟨v, H, I, r, q⟩ := h
  cases g with
  | lock n t kvs =>
    obtain ⟨d, od, w, e, nf, q⟩ := q
    exact ⟨v, _, I.unlock e nf, r, q⟩
  | none => exact ⟨v, H, I, r, q⟩
  | keep n mo => exact ⟨v, H, I, r, q⟩
theorem HI.unlock {h : Hs} {as : List Addr} {H : Hp} {m : Nat} {t : Bool} {kvs : List (D × D)} (hi : HI (M.g X.K) h as H) (e : h[m]? = some (.dic true t kvs)) :
    ∃ d od u, as[m]? = some d ∧ H d = some (.frz od u) ∧ HI (M.g X.K) (h.set m (.dic false t kvs)) as (upd H d u) := by
  obtain ⟨d, ed, ob⟩ := hi.get e
  have go : ∀ (od : Obj) (u : HO), H d = some (.frz od u) → ObR (M.g X.K) as (upd H d u) d (.dic false t kvs) → ∃ d od u, as[m]? = some d ∧ H d = some (.frz od u) ∧ HI (M.g X.K) (h.set m (.dic false t kvs)) as (upd H d u) := by
    intro od u hf ob'
    refine ⟨d, od, u, ed, hf, fun dd fs eq => ?_, by simp [hi.len], hi.nd, fun k mo a e1 e2 => ?_⟩
    · obtain ⟨q1, vs, q2, q3⟩ := hi.xd dd fs eq
      have tt : ∀ (a : Addr) (xs : List V), H a = some (.tup xs) → upd H d u a = some (.tup xs) := fun a xs h => tup_upd (fun ys q => by rw [hf] at q; cases q) h
      exact ⟨q1, vs, by rw [upd_ne (fun e => q1 (by rw [e]; exact List.mem_of_getElem? ed))]; exact q2, Paired.mapP q3 fun _ _ z => ⟨z.1, z.2.mono0 (fun _ _ h => h) tt⟩⟩
    by_cases hk : k = m
    · subst hk
      rw [ed] at e2; cases e2
      have hl : k < h.length := (List.getElem?_eq_some_iff.mp e).1
      rw [List.getElem?_set_self hl] at e1; cases e1
      exact ob'
    · rw [List.getElem?_set_ne (Ne.symm hk)] at e1
      refine (hi.ob k mo a e1 e2).mono0 (fun _ _ h => h) (fun a xs h => tup_upd (fun ys q => by rw [hf] at q; cases q) h) (upd_ne fun q => hk ?_)
      subst q
      exact (List.getElem?_inj (List.getElem?_eq_some_iff.mp e2).1 hi.nd).mp (e2.trans ed.symm)
  have tp : ∀ {od : Obj} {u : HO}, H d = some (.frz od u) → ∀ (a : Addr) (xs : List V), H a = some (.tup xs) → upd H d u a = some (.tup xs) := fun hf a xs h => tup_upd (fun ys q => by rw [hf] at q; cases q) h
  cases t with
  | false =>
    obtain ⟨kv, hl, hk⟩ := ob
    simp only [lkd, if_true] at hl
    obtain ⟨od, hl⟩ := hl
    refine go od _ hl ⟨kv, ?_, Paired.mapP hk fun _ _ z => ⟨z.1, z.2.mono0 (fun _ _ h => h) (tp hl)⟩⟩
    simp only [lkd, Bool.false_eq_true, if_false]; exact upd_same
  | true =>
    obtain ⟨kv, hl, hk⟩ := ob
    simp only [lkd, if_true] at hl
    obtain ⟨od, hl⟩ := hl
    refine go od _ hl ⟨kv, ?_, Paired.mapP hk fun _ _ z => ⟨z.1, z.2.mono0 (fun _ _ h => h) (tp hl)⟩⟩
    simp only [lkd, Bool.false_eq_true, if_false]; exact upd_same
/-- from ahead of the lock to behind the unlocking -/
theorem Ext.unlock {as as' : List Addr} {H H' : Hp} {d : Addr} {u : HO} {od : Obj} (x : Ext as H as' H') (hd : d ∈ as') (hf : H' d = some (.frz od u)) (nf : ∀ o w, H d ≠ some (.frz o w)) : Ext as H as' (upd H' d u) :=
  ⟨x.pre, fun a xs h => tup_upd (fun ys q => by rw [hf] at q; cases q) (x.tup a xs h), fun a o w h => by
    rw [upd_ne (show a ≠ d from fun q => nf o w (by rw [← q]; exact h))]; exact x.frz a o w h, fun a o h hn => by rw [upd_ne (show a ≠ d from fun q => hn (by rw [q]; exact hd))]; exact x.out a o h hn, x.fresh⟩
/-- an object that stands already becomes one of ours -/
theorem HI.add {h : Hs} {as : List Addr} {H : Hp} {p : Addr} {xs : List D} {vs : List V} (hi : HI (M.g X.K) h as H) (hp : p ∉ as) (e : H p = some (.lst vs)) (r : Reps (M.g X.K) as H xs vs) : HI (M.g X.K) (h ++ [.lst xs]) (as ++ [p]) H := by
  have pre : ∀ (n : Nat) (a : Addr), as[n]? = some a → (as ++ [p])[n]? = some a := fun n a e => by rw [List.getElem?_append_left (List.getElem?_eq_some_iff.mp e).1]; exact e
  refine ⟨fun dd fs eq => ?_, by simp [hi.len], ?_, fun n mo a e1 e2 => ?_⟩
  · obtain ⟨q1, vs', q2, q3⟩ := hi.xd dd fs eq
    refine ⟨fun q => ?_, vs', q2, Paired.mapP q3 fun _ _ z => ⟨z.1, z.2.mono0 pre (fun _ _ h => h)⟩⟩
    rcases List.mem_append.mp q with q | q
    · exact q1 q
    · rw [List.mem_singleton] at q
      rw [q, e] at q2; cases q2
  · rw [List.nodup_append]
    refine ⟨hi.nd, by simp, fun a ha b hb => ?_⟩
    simp at hb; subst hb
    exact fun e => hp (e ▸ ha)
  · by_cases hn : n < h.length
    · rw [List.getElem?_append_left hn] at e1
      rw [List.getElem?_append_left (by rw [hi.len]; exact hn)] at e2
      exact (hi.ob n mo a e1 e2).mono0 pre (fun _ _ h => h) rfl
    · have hn2 : n = h.length := by
        have := (List.getElem?_eq_some_iff.mp e1).1
        simp at this; omega
      subst hn2
      rw [List.getElem?_append_right (by omega)] at e1
      rw [List.getElem?_append_right (by rw [hi.len]; exact Nat.le_refl _)] at e2
      simp [hi.len] at e1 e2
      subst e1 e2
      exact ⟨vs, e, r.mono0 pre (fun _ _ h => h)⟩
theorem SL.wipe {G : Gx} {as : List Addr} {H : Hp} {σI : Sg} {σ : L2.St} (hx : G.ex = none) (s : SL G σI as H σ) : ∀ own : List Nat, SL G (wipeI σI own) as H (L2.wipe σ own)
  | [] => s
  | v :: vs => by
    have ih := SL.wipe hx s vs
    refine ⟨by simp [wipeI, L2.wipe, ih.len], fun j d e => ?_, fun _ _ q => by rw [hx] at q; cases q⟩
    simp only [wipeI, L2.wipe] at e ⊢
    by_cases hj : j = v
    · subst hj
      have hl : j < (wipeI σI vs).length := by
        have := (List.getElem?_eq_some_iff.mp e).1
        simpa using this
      rw [List.getElem?_set_self hl] at e; cases e
    · rw [List.getElem?_set_ne (Ne.symm hj)] at e ⊢
      exact ih.at_ j d e
theorem wipe_eq {σ σ2 : L2.St} {vs : List Nat} (h : ∀ i, i ∉ vs → σ2[i]? = (L2.wipe σ vs)[i]?) (hl : σ2.length = (L2.wipe σ vs).length) : L2.wipe σ2 vs = L2.wipe σ vs := by
  have in_ : ∀ (σ : L2.St) (i : Nat) (vs : List Nat), i ∈ vs → i < σ.length → (L2.wipe σ vs)[i]? = some none := by
    intro σ i vs
    induction vs with
    | nil => intro h _; cases h
    | cons v vs ih =>
      intro h hl
      unfold L2.wipe
      by_cases hi : i = v
      · subst hi
        rw [List.getElem?_set_self (by rw [wipe_length]; exact hl)]
      · rw [List.getElem?_set_ne (Ne.symm hi)]
        exact ih (by rcases List.mem_cons.mp h with e | e; exact absurd e hi; exact e) hl
  have hl2 : σ2.length = σ.length := by rw [hl, wipe_length]
  refine List.ext_getElem? fun i => ?_
  by_cases hi : i ∈ vs
  · by_cases hb : i < σ.length
    · rw [in_ σ i vs hi hb, in_ σ2 i vs hi (by omega)]
    · rw [List.getElem?_eq_none (by rw [wipe_length]; omega), List.getElem?_eq_none (by rw [wipe_length]; omega)]
  · rw [wipe_out hi, h i hi]
/-- a block's tests -/
def tC (G : Gx) (Wx : WX) (ev : Sg → Hs → R Bool) : TT := fun σ H Q => ∃ σI h as, SL G σI as H σ ∧ HI G h as H ∧ post G Wx rB as H σ (ev σI h) Q
theorem pts_of {ifs : List Expr} {cd : List E} (h : match ifs with | [] => cd = [] | [e] => ∃ c, cd = [c] ∧ SE M X Wx cf c e | _ => False) : PTs X ifs (tC (M.g X.K) Wx (fun σ h => (evalEs M.W cf M.cx cd σ h).bind cdB)) := by
  match ifs with
  | [] =>
    simp only at h
    subst h
    refine ⟨fun pins s σ H Q I q => ?_⟩
    obtain ⟨σI, hh, as, sl, hi, p⟩ := q
    exact pts_nil.run pins s σ H Q I (p true as H Ext.refl hi rfl)
  | [e] =>
    obtain ⟨c, rfl, hc⟩ := h
    refine ⟨fun pins s σ H Q I q => ?_⟩
    obtain ⟨σI, hh, as, sl, hi, p⟩ := q
    refine (pts_one hc.2).run pins s σ H Q I ⟨σI, hh, as, sl, hi, ?_⟩
    simp only [evalEs, R.bind_assoc, R.bind_ok] at p
    exact p
  | _ :: _ :: _ => exact h.elim
theorem lc_tr (K : Cok X M C sc n Wx cf) (hh : C.hot = false) {own : List Nat} {tg : Tg} {k : Ik} {its cd : List E} {el : E} (hown : ∀ i ∈ tgIx tg, i ∈ own) {σ : L2.St} {H : Hp} {Q : VK}
    (h : tE (M.g X.K) Wx (evalE M.W cf M.cx (.lc own tg k its cd el)) σ H Q) :
    ∃ g, tLc (tI X M Wx (evalEs M.W cf M.cx its) k) (gT (M.g X.K) tg) (tC (M.g X.K) (fun _ _ _ _ => False) (fun σ h => (evalEs M.W cf M.cx cd σ h).bind cdB)) (tE (M.g X.K) (fun _ _ _ _ => False) (evalE M.W cf M.cx el)) own σ H (unlQ X g Q) := by
  obtain ⟨σI, h, as, sl, hi, p⟩ := h
  simp only [evalE] at p
  rw [← R.bind_assoc] at p
  cases e0 : ((evalEs M.W cf M.cx its σI h).bind fun xs h => ofO (itemsI M.W.cons k xs h) h) with
  | no => rw [e0] at p; exact p.elim
  | exc c fs h1 =>
    rw [e0] at p
    refine ⟨.none, σI, h, as, sl, hi, ?_⟩
    rw [e0]; exact p
  | ok ig h0 =>
    rw [e0] at p
    obtain ⟨items, g, hg⟩ := ig
    simp only [R.bind_ok] at p
    refine ⟨g, σI, h, as, sl, hi, ?_⟩
    rw [e0]
    rintro J as1 H1 x1 ⟨i1, w1⟩ gd Dd hD
    simp only at i1 w1 gd
    -- the invariant
    generalize hturn : lcTurn (fun d => bindT tg d (wipeI σI own)) (fun σ1 h => (evalEs M.W cf M.cx cd σ1 h).bind cdB) (fun σ1 h => evalE M.W cf M.cx el σ1 h) = turn at p
    refine ⟨fun i m Hc => m = items.length - i ∧ i ≤ items.length ∧ ∃ hc asc acc accV, Ext as1 H1 asc Hc ∧ HI (M.g X.K) hc asc Hc ∧ Dd ∉ asc ∧ Hc Dd = some (.lst accV) ∧ Reps (M.g X.K) asc Hc acc accV ∧
      post (M.g X.K) Wx (Rep (M.g X.K)) as H σ ((lcI g turn (items.drop i) acc hc).bind lcEnd) Q, ⟨items.length, by simp, Nat.zero_le _, hg, as1, [], [], ext_tup hD, i1.other hD, i1.fresh hD, upd_same, by simp only [Reps], p⟩, ?_⟩
    rintro i m Hc ⟨rfl, hile, hc, asc, acc, accV, xc, ic, hDn, eD, ra, pc⟩
    -- the slots
    have slc : SL (M.g X.K) (wipeI σI own) asc Hc (L2.wipe σ own) := ((sl.mono x1).mono xc).wipe (K.cool hh).nex own
    by_cases hlt : i < items.length
    · have hdrop : items.drop i = items[i] :: items.drop (i + 1) := List.drop_eq_getElem_cons hlt
      rw [hdrop] at pc
      simp only [lcI] at pc
      by_cases hs : same g hc
      · rw [if_pos hs] at pc
        obtain ⟨go, yl⟩ := (w1 i hc asc Hc xc ic hs).2 items[i] (by simp [hlt])
        refine .inr ⟨go, fun Hn => items.length - (i + 1) = items.length - (i + 1) ∧ i + 1 ≤ items.length ∧ ∃ hc asc acc accV, Ext as1 H1 asc Hn ∧ HI (M.g X.K) hc asc Hn ∧ Dd ∉ asc ∧ Hn Dd = some (.lst accV) ∧ Reps (M.g X.K) asc Hn acc accV ∧
          post (M.g X.K) Wx (Rep (M.g X.K)) as H σ ((lcI g turn (items.drop (i + 1)) acc hc).bind lcEnd) Q, fun H' q => ⟨items.length - (i + 1), by omega, q⟩, fun x H' y => ?_⟩
        obtain ⟨as', x', i', rx⟩ := yl x H' y
        have hD' : Dd ∉ as' := fun q => by
          have := x'.fresh Dd q hDn
          rw [eD] at this; cases this
        have eD' := x'.out _ _ eD hD'
        have et : turn items[i] hc = ((ofO (bindT tg items[i] (wipeI σI own)) hc).bind fun σ1 h => ((evalEs M.W cf M.cx cd σ1 h).bind cdB).bind fun b h => if b then (evalE M.W cf M.cx el σ1 h).bind fun x h => R.ok (some x) h else R.ok none h).shut := by rw [← hturn]; rfl
        rw [et] at pc
        cases eb : bindT tg items[i] (wipeI σI own) with
        | none => rw [eb] at pc; exact pc.elim
        | some σ1 =>
          rw [eb] at pc
          simp only [ofO_some, R.bind_ok] at pc
          refine ⟨wipeI σI own, hc, as', items[i], σ1, slc.mono x', i', rx, eb, fun σ2 sl2 hout => ⟨wipe_eq (fun j hj => hout j fun q => hj (hown j q)) ?_, ?_⟩⟩
          · rw [← sl2.len, ← slc.len]
            have : ∀ {t : Tg} {d : D} {σ σ1 : Sg}, bindT t d σ = some σ1 → σ1.length = σ.length := by
              intro t d σ σ1 e
              cases t with
              | nm i => simp only [bindT, Option.some.injEq] at e; subst e; simp
              | tp is =>
                cases d with
                | tup ds =>
                  simp only [bindT] at e
                  split at e
                  · cases e
                    have : ∀ (l : List (Nat × D)) (σ : Sg), (l.foldl (fun σ p => σ.set p.1 (some p.2)) σ).length = σ.length := by
                      intro l
                      induction l with
                      | nil => intro σ; rfl
                      | cons a l ih => intro σ; rw [List.foldl_cons, ih, List.length_set]
                    exact this _ _
                  · cases e
                | _ => simp [bindT] at e
            exact this eb
          -- the tests
          cases ec : (evalEs M.W cf M.cx cd σ1 hc).bind cdB with
          | no => rw [ec] at pc; exact pc.elim
          | exc c fs h2 => rw [ec] at pc; exact pc.elim
          | ok b h2 =>
            rw [ec] at pc
            simp only [R.bind_ok] at pc
            refine ⟨σ1, hc, as', sl2, i', ?_⟩
            show post _ _ _ _ _ _ ((evalEs M.W cf M.cx cd σ1 hc).bind cdB) _
            rw [ec]
            rintro b' as2 H2 x2 i2 rfl
            have hD2 : Dd ∉ as2 := fun q => by
              have := x2.fresh Dd q hD'
              rw [eD'] at this; cases this
            have eD2 := x2.out _ _ eD' hD2
            cases b with
            | false =>
              simp only [Bool.false_eq_true, if_false, R.shut_ok, R.bind_ok] at pc ⊢
              refine ⟨trivial, by omega, h2, as2, acc, accV, xc.trans (x'.trans x2), i2, hD2, eD2, (ra.mono x').mono x2, ?_⟩
              exact pc
            | true =>
              simp only [if_true] at pc ⊢
              cases ee : evalE M.W cf M.cx el σ1 h2 with
              | no => rw [ee] at pc; exact pc.elim
              | exc c fs h3 => rw [ee] at pc; exact pc.elim
              | ok d h3 =>
                rw [ee] at pc
                simp only [R.bind_ok, R.shut_ok] at pc
                split at pc
                · rename_i hlen
                  refine ⟨σ1, h2, as2, sl2.mono x2, i2, ?_⟩
                  show post _ _ _ _ _ _ (evalE M.W cf M.cx el σ1 h2) _
                  rw [ee]
                  rintro v as3 H3 x3 i3 rv
                  have hD3 : Dd ∉ as3 := fun q => by
                    have := x3.fresh Dd q hD2
                    rw [eD2] at this; cases this
                  have eD3 := x3.out _ _ eD2 hD3
                  have ra3 := ((ra.mono x').mono x2).mono x3
                  refine ⟨accV, eD3, by rw [← ra3.length]; exact hlen, trivial, by omega, h3, as3, acc ++ [d], accV ++ [v], ?_, ?_, hD3, upd_same, ?_, ?_⟩
                  · -- the list grows: none of ours
                    refine ⟨fun n a e => ((xc.trans (x'.trans x2)).trans x3).pre n a e, fun a xs e => tup_upd (fun ys q => by rw [eD3] at q; cases q) (((xc.trans (x'.trans x2)).trans x3).tup a xs e), fun a o w e => frz_upd (fun ob w q => by rw [eD3] at q; cases q) (((xc.trans (x'.trans x2)).trans x3).frz a o w e), fun a o e hn => ?_, ((xc.trans (x'.trans x2)).trans x3).fresh⟩
                    rw [upd_ne (fun q => by subst q; rw [hD] at e; cases e)]
                    exact ((xc.trans (x'.trans x2)).trans x3).out a o e hn
                  · refine ⟨fun dd fs eq => ?_, i3.len, i3.nd, fun n mo a e1 e2 => (i3.ob n mo a e1 e2).mono0 (fun _ _ h => h) (fun a xs e => tup_upd (fun ys q => by rw [eD3] at q; cases q) e) (upd_ne fun q => hD3 (by subst q; exact List.mem_of_getElem? e2))⟩
                    obtain ⟨q1, vs', q2, q3⟩ := i3.xd dd fs eq
                    exact ⟨q1, vs', by rw [upd_ne (fun e => by rw [e, eD3] at q2; cases q2)]; exact q2, Paired.mapP q3 fun _ _ z => ⟨z.1, z.2.mono0 (fun _ _ h => h) (fun a xs e => tup_upd (fun ys q => by rw [eD3] at q; cases q) e)⟩⟩
                  · exact (Reps.append ra3 (Reps.one rv)).mono0 (fun _ _ h => h) (fun a xs e => tup_upd (fun ys q => by rw [eD3] at q; cases q) e)
                  · exact pc
                · exact pc.elim
      · rw [if_neg hs] at pc; exact pc.elim
    · have hie : i = items.length := by omega
      subst hie
      rw [List.drop_length] at pc
      simp only [lcI] at pc
      by_cases hs : same g hc
      · rw [if_pos hs] at pc
        refine .inl ⟨(w1 _ hc asc Hc xc ic hs).1 (Nat.le_refl _), ?_⟩
        simp only [R.bind_ok, lcEnd] at pc
        have fin : ∀ (h' : Hs) (H' : Hp), endG g hc = h' → HI (M.g X.K) h' asc H' → H' Dd = some (.lst accV) → Reps (M.g X.K) asc H' acc accV → Ext as H asc H' → Q (.ref Dd) H' := by
          intro h' H' e i' eD' ra' x'
          rw [e] at pc
          refine pc _ (asc ++ [Dd]) H' ?_ (i'.add hDn eD' ra') ?_
          · refine ⟨fun n a e => by rw [List.getElem?_append_left (List.getElem?_eq_some_iff.mp (x'.pre n a e)).1]; exact x'.pre n a e, x'.tup, x'.frz, fun a o e hn => x'.out a o e fun q => hn (List.mem_append_left _ q), fun a hm hn => ?_⟩
            rcases List.mem_append.mp hm with hm | hm
            · exact x'.fresh a hm hn
            · rw [List.mem_singleton.mp hm]
              cases e5 : H Dd with
              | none => rfl
              | some o =>
                have q1 : Dd ∉ as1 := i1.fresh hD
                rw [x1.out Dd o e5 q1] at hD; cases hD
          · simp only [Rep]
            exact ⟨Dd, rfl, by rw [← i'.len]; simp⟩
        cases g with
        | none => exact fin _ Hc rfl ic eD ra (x1.trans xc)
        | keep n' mo => exact fin _ Hc rfl ic eD ra (x1.trans xc)
        | lock n' t kvs =>
          obtain ⟨a, ea, nf0, nf⟩ := gd
          obtain ⟨d, od, u, ed, hf, iu⟩ := ic.unlock hs
          obtain rfl : a = d := by
            have := xc.pre _ _ ea
            rw [ed] at this; exact (Option.some.inj this).symm
          have hDd : Dd ≠ a := fun q => hDn (q ▸ List.mem_of_getElem? ed)
          refine ⟨a, od, u, hf, nf0, fin _ _ rfl iu (by rw [upd_ne hDd]; exact eD) (ra.mono0 (fun _ _ h => h) fun b xs e => tup_upd (fun ys q => by rw [hf] at q; cases q) e) ((x1.trans xc).unlock (List.mem_of_getElem? ed) hf nf)⟩
      · rw [if_neg hs] at pc; exact pc.elim
theorem se_lc (K : Cok X M C sc n Wx cf) (hh : C.hot = false) {own : List Nat} {tg : Tg} {k : Ik} {its cd : List E} {el : E} {elt tg' iter : Expr} {ifs : List Expr} {scope : Scope} {pos : Pos}
    (hb : blkC C.N sc scope (ownP C own) = true) (htg : tgB C scope tg tg' = true) (hown : ∀ i ∈ tgIx tg, i ∈ own) (hpi : PI X tg' iter (tI X M Wx (evalEs M.W cf M.cx its) k)) (hset : isSet iter = false)
    (hcd : ∀ {X' : Cx}, X'.K = X.K → Cok X' M C scope n (fun _ _ _ _ => False) cf → PTs X' ifs (tC (M.g X.K) (fun _ _ _ _ => False) (fun σ h => (evalEs M.W cf M.cx cd σ h).bind cdB)))
    (hel : ∀ {X' : Cx}, X'.K = X.K → Cok X' M C scope n (fun _ _ _ _ => False) cf → PE X' elt (tE (M.g X.K) (fun _ _ _ _ => False) (evalE M.W cf M.cx el))) :
    PE X (.ListComp elt [⟨tg', iter, ifs, 0⟩] scope pos) (tE (M.g X.K) Wx (evalE M.W cf M.cx (.lc own tg k its cd el))) := by
  refine ⟨fun pins s σ H Q I h => ?_⟩
  obtain ⟨g, h⟩ := lc_tr K hh hown h
  have hfold : ∀ x, foldedSetIterable iter X.env x = pure x := by
    intro x
    cases iter <;> first | rfl | (simp [isSet] at hset)
  have hvs : (ownP C own).map (·.2) = own := by
    unfold ownP; rw [List.map_map]
    exact (List.map_congr_left fun _ _ => rfl).trans (List.map_id _)
  have rule := pe_lc (pos := pos) (g := gT (M.g X.K) tg) (tt := tC (M.g X.K) (fun _ _ _ _ => False) (fun σ h => (evalEs M.W cf M.cx cd σ h).bind cdB)) (te := tE (M.g X.K) (fun _ _ _ _ => False) (evalE M.W cf M.cx el)) (K.cool hh).calm K.nd hpi (blk_ok K hb)
    (fun s H Cc cl fp => pg_tg (K.blk hh s H scope Cc cl fp) htg) (fun s H Cc cl fp => hcd rfl (K.blk hh s H scope Cc cl fp)) (fun s H Cc cl fp => hel rfl (K.blk hh s H scope Cc cl fp)) hfold
  rw [hvs] at rule
  exact thn (rule.run pins s σ H (unlQ X g Q) I h) fun u s' q => EP.unl q
end
end Rf
end

section
namespace Rf
open PySem PySem.Spec PyProof.Rows L2

section
variable {X : Cx} {M : Mx} {C : Ck} {sc : Scope} {n : Nat} {Wx : WX} {cf : CF}
inductive SL2 (M : Mx) (X : Cx) (Wx : WX) (cf : CF) : List E → List Expr → Prop where
  | nil : SL2 M X Wx cf [] []
  | cons {e x es xs} (h1 : SE M X Wx cf e x ∧ isStar x = false) (h2 : SL2 M X Wx cf es xs) : SL2 M X Wx cf (e :: es) (x :: xs)
def OptE (M : Mx) (X : Cx) (Wx : WX) (cf : CF) (lo : List E) (l : Option Expr) : Prop := match l with | none => lo = [] | some e => ∃ a, lo = [a] ∧ SE M X Wx cf a e
theorem pa_of {es : List E} {xs : List Expr} (h : SL2 M X Wx cf es xs) : PA X xs (tEs (M.g X.K) Wx (evalEs M.W cf M.cx es)) := by
  induction h with
  | nil =>
    refine pa_imp pa_nil ?_
    rintro σ H Q ⟨σI, h, as, sl, hi, p⟩
    exact p [] as H Ext.refl hi (by simp only [Reps])
  | cons h1 h2 ih =>
    rename_i e x es xs
    refine pa_imp (pa_cons h1.1.1 ih (star_one h1.2 _ _)) ?_
    rintro σ H Q ⟨σI, h, as, sl, hi, p⟩
    simp only [evalEs] at p
    obtain ⟨q1, q2, q3, sl', hi', p'⟩ := then1 sl hi p
    refine ⟨q1, q2, q3, sl', hi', p'.imp ?_⟩
    rintro v H1 ⟨d, h1, as1, _, x1, sl1, i1, r1, p1⟩
    obtain ⟨q1, q2, q3, sl', hi', p'⟩ := thens sl1 i1 p1
    refine ⟨q1, q2, q3, sl', hi', p'.imp ?_⟩
    rintro vs H2 ⟨ds, h2, as2, _, x2, sl2, i2, rs, p2⟩
    refine p2 _ as2 H2 Ext.refl i2 ?_
    simp only [Reps]
    exact ⟨v, vs, rfl, r1.mono x2, rs⟩
theorem se_neg {a : E} {x : Expr} {pos : Pos} (ha : SE M X Wx cf a x) : PE X (.UnaryOp .USub x pos) (tE (M.g X.K) Wx (evalE M.W cf M.cx (.neg a))) := by
  refine pe_imp (pe_un un_neg ha.1) ?_
  rintro σ H Q ⟨σI, h, as, sl, hi, p⟩
  simp only [evalE] at p
  obtain ⟨q1, q2, q3, sl', hi', p'⟩ := then1 sl hi p
  refine ⟨q1, q2, q3, sl', hi', p'.imp ?_⟩
  rintro v H1 ⟨d, h1, as1, _, x1, sl1, i1, r1, p1⟩
  cases d with
  | int i =>
    simp only [Rep] at r1; subst r1
    exact ⟨i, rfl, p1 _ as1 H1 Ext.refl i1 (by simp only [Rep])⟩
  | _ => exact p1.elim
def rBlC (M : Mx) (K : PySem.W.Frag) (Wx : WX) (σ : L2.St) (b : Bf) : List V → Hp → VK → Prop := fun xs H Q => ∃ ds h as, HI (M.g K) h as H ∧ Reps (M.g K) as H ds xs ∧ post (M.g K) Wx (Rep (M.g K)) as H σ (bltC M.W b ds h) Q
theorem bl_listC (K : Cok X M C sc n Wx cf) (hh : C.hot = false) (σ' : L2.St) : CallR X (.type "list") (rBlC M X.K Wx σ' .list) := by
  intro pins s σ H xs us Q I r hh
  obtain ⟨ds, h, as, hi, rs, p⟩ := hh
  simp only [bltC] at p
  split at p
  · rename_i g
    obtain ⟨v, _, rfl, r1, rn⟩ := rs.cons_inv
    obtain rfl := rn.nil_inv
    split at p
    · rename_i hg
      subst hg
      simp only [Rep] at r1
      obtain ⟨a, rfl, ha⟩ := r1
      refine call_list_of pins s σ H _ us Q I r ⟨a, _, rfl, .inl (K.scr a ha H), fun q hq => ?_⟩
      refine p _ (as ++ [q]) _ (ext_new hq) (hi.new hq ⟨_, upd_same, Reps.ints⟩) ?_
      simp only [Rep]
      exact ⟨q, rfl, by rw [← hi.len]; simp⟩
    · split at p
      · rename_i ys ey
        simp only [Rep] at r1
        obtain ⟨a, rfl, ha⟩ := r1
        obtain ⟨ws, hv, _⟩ := K.con g ys a ey ha
        refine call_list_of pins s σ H _ us Q I r ⟨a, ws, rfl, .inr (hv H as).1, fun q hq => ?_⟩
        refine p _ (as ++ [q]) _ (ext_new hq) (hi.new hq ⟨_, upd_same, (hv H as).2.mono (ext_new hq)⟩) ?_
        simp only [Rep]
        exact ⟨q, rfl, by rw [← hi.len]; simp⟩
      · exact p.elim
  · exact bl_list (K.cool hh).calm σ' pins s σ H xs us Q I r ⟨ds, h, as, hi, rs, p⟩
/-- a built-in function called -/
theorem se_blt (K : Cok X M C sc n Wx cf) (hot : C.hot = false) {b : Bf} {es : List E} {x : Str} {xs : List Expr} {p pos : Pos} {nm : Str} {fl : Bool} (h1 : glB sc x = true) (h2 : okN x = true) (h3 : bfName b = some (nm, fl)) (h4 : x = nm) (h5 : chkEs C es sc xs = true) (h6 : es ≠ []) (h : SL2 M X Wx cf es xs) :
    PE X (.Call (.Name x p) xs [] pos) (tE (M.g X.K) Wx (evalE M.W cf M.cx (.blt b es))) := by
  subst h4
  refine ⟨fun pins s σ H Q I q => ?_⟩
  obtain ⟨σI, hh, as, sl, hi, p⟩ := q
  simp only [evalE] at p
  have tt : tCB (rBlC M X.K Wx σ b) (tEs (M.g X.K) Wx (evalEs M.W cf M.cx es)) σ H Q := by
    obtain ⟨q1, q2, q3, sl', hi', p'⟩ := thens sl hi p
    refine ⟨q1, q2, q3, sl', hi', p'.imp ?_⟩
    rintro vs H1 ⟨ds, h1, as1, _, x1, sl1, i1, r1, p1⟩
    exact ⟨ds, h1, as1, i1, r1, p1⟩
  have pa := pa_of h
  cases xs with
  | nil => cases es with
    | nil => exact absurd rfl h6
    | cons e es => simp [chkEs] at h5
  | cons y ys =>
    cases es with
    | nil => exact absurd rfl h6
    | cons e es =>
      simp only [chkEs, Bool.and_eq_true, Bool.not_eq_true'] at h5
      have st1 := star_one h5.1.2 ys X.env
      have st2 : (backTo pos (starEach ys X.env)).any (·.1) = false := chkEs_star h5.2
      obtain ⟨d1, d2, d3⟩ := okN_ok h2
      have mm := bl_mm (M := M) (Wx := Wx) (K.cool hot).calm σ
      have rr := bl_repr (M := M) (Wx := Wx) K.gd K.hu σ
      cases b <;> simp only [bfName, Option.some.injEq, Prod.mk.injEq, reduceCtorEq] at h3 <;> obtain ⟨rfl, rfl⟩ := h3
      · exact (pe_callB (bl_len σ) (K.gl _ h1) (K.bl _ (by decide +kernel)) (by decide +kernel) pa d3 d1 st1 st2).run pins s σ H Q I tt
      · exact (pe_callB (bl_abs σ) (K.gl _ h1) (K.bl _ (by decide +kernel)) (by decide +kernel) pa d3 d1 st1 st2).run pins s σ H Q I tt
      · exact (pe_callTy (bl_int σ) (K.gl _ h1) (K.bl _ (by decide +kernel)) (by decide +kernel) pa d3 d1 st1 st2).run pins s σ H Q I tt
      · exact (pe_callTy (bl_str σ) (K.gl _ h1) (K.bl _ (by decide +kernel)) (by decide +kernel) pa d3 d1 st1 st2).run pins s σ H Q I tt
      · exact (pe_callTy (bl_listC K hot σ) (K.gl _ h1) (K.bl _ (by decide +kernel)) (by decide +kernel) pa d3 d1 st1 st2).run pins s σ H Q I tt
      · exact (pe_callTy (bl_tuple σ) (K.gl _ h1) (K.bl _ (by decide +kernel)) (by decide +kernel) pa d3 d1 st1 st2).run pins s σ H Q I tt
      · exact (pe_callTy (bl_dict σ) (K.gl _ h1) (K.bl _ (by decide +kernel)) (by decide +kernel) pa d3 d1 st1 st2).run pins s σ H Q I tt
      · exact (pe_callB mm.1 (K.gl _ h1) (K.bl _ (by decide +kernel)) (by decide +kernel) pa d3 d1 st1 st2).run pins s σ H Q I tt
      · exact (pe_callB mm.2 (K.gl _ h1) (K.bl _ (by decide +kernel)) (by decide +kernel) pa d3 d1 st1 st2).run pins s σ H Q I tt
      · exact (pe_callB rr (K.gl _ h1) (K.bl _ (by decide +kernel)) (by decide +kernel) pa d3 d1 st1 st2).run pins s σ H Q I tt
theorem se_isi (K : Cok X M C sc n Wx cf) {b : Bf} {T : String} {es : List E} {a : Expr} {p p2 pos : Pos} (h1 : glB sc (Str.ofString "isinstance") = true) (h2 : glB sc (Str.ofString T) = true) (h3 : tyOfB b = some T) (h5 : isStar a = false) (h : SL2 M X Wx cf es [a]) :
    PE X (.Call (.Name (Str.ofString "isinstance") p) [a, .Name (Str.ofString T) p2] [] pos) (tE (M.g X.K) Wx (evalE M.W cf M.cx (.blt b es))) := by
  refine ⟨fun pins s σ H Q I q => ?_⟩
  obtain ⟨σI, hh, as, sl, hi, p⟩ := q
  simp only [evalE] at p
  have hT : PE X (.Name (Str.ofString T) p2) (L2.tC (.ty T)) := by
    cases b <;> simp only [tyOfB, Option.some.injEq, reduceCtorEq] at h3 <;> subst h3
    all_goals exact pe_bltn (K.gl _ h2) (K.bl _ (by decide +kernel)) (by decide +kernel) rfl (by decide +kernel) (by decide +kernel)
  cases h with
  | cons h1' h2' =>
    cases h2'
    rename_i e
    have pa : PA X [a, .Name (Str.ofString T) p2] (tCons (tE (M.g X.K) Wx (evalE M.W cf M.cx e)) (tCons (L2.tC (.ty T)) tNil)) := pa_cons h1'.1.1 (pa_cons hT pa_nil rfl) (star_one h5 _ _)
    refine (pe_callB (bl_is (M := M) (Wx := Wx) h3 σ) (K.gl _ h1) (K.bl _ (by decide +kernel)) (by decide +kernel) pa (by decide +kernel) (by decide +kernel) (star_one h5 _ _) rfl).run pins s σ H Q I ?_
    simp only [evalEs, R.bind_assoc, R.bind_ok] at p
    obtain ⟨q1, q2, q3, sl', hi', p'⟩ := then1 sl hi p
    refine ⟨q1, q2, q3, sl', hi', p'.imp ?_⟩
    rintro v H1 ⟨d, h1, as1, _, x1, sl1, i1, r1, p1⟩
    refine ⟨v, d, h1, as1, rfl, i1, r1, ?_⟩
    cases b <;> first | exact p1 | (simp [tyOfB] at h3)
end
section
variable {M : Mx} {C : Ck} {n : Nat} {cf : CF}
abbrev SEW (M : Mx) (X : Cx) (Wx : WX) (cf : CF) (ie : E) (e : Expr) : Prop := SE M X Wx cf ie e ∧ (∀ op xs pos, e = .BoolOp op xs pos → PW X e (tT (M.g X.K) Wx (evalE M.W cf M.cx ie)))
theorem SEW.of {X : Cx} {Wx : WX} {ie : E} {e : Expr} (h : SE M X Wx cf ie e) (hb : ∀ op xs pos, e ≠ .BoolOp op xs pos) : SEW M X Wx cf ie e := ⟨h, fun op xs pos q => absurd q (hb op xs pos)⟩
mutual
theorem sE : ∀ (ie : E) {X : Cx} {sc : Scope} {Wx : WX} {e : Expr}, chkE C ie sc e = true → Cok X M C sc n Wx cf → SEW M X Wx cf ie e
  | .var i, X, sc, Wx, e, h, K => by
    cases e <;> simp only [chkE, Bool.false_eq_true, Bool.and_eq_true] at h
    have := se_var (pos := by assumption) K h.1.1 h.1.2 h.2
    exact .of ⟨this, mkT this fun _ => rfl⟩ (by intros; simp)
  | .cst d, X, sc, Wx, e, h, K => by
    cases e <;> simp only [chkE, Bool.false_eq_true, Bool.and_eq_true] at h
    have := se_cst (X := X) (M := M) (Wx := Wx) (cf := cf) (pos := by assumption) (k := by assumption) h
    exact .of ⟨this, mkT this fun _ => rfl⟩ (by intros; simp)
  | .glb g, X, sc, Wx, e, h, K => by
    cases e <;> simp only [chkE, Bool.false_eq_true, Bool.and_eq_true] at h
    have := se_glb (pos := by assumption) K h.1.1 h.1.2 h.2
    exact .of ⟨this, mkT this fun _ => rfl⟩ (by intros; simp)
  | .fnv g, X, sc, Wx, e, h, K => by
    cases e <;> simp only [chkE, Bool.false_eq_true, Bool.and_eq_true, Bool.not_eq_true'] at h
    have := se_fnv (pos := by assumption) K h.1 h.2.1.1 h.2.1.2 h.2.2
    exact .of ⟨this, mkT this fun _ => rfl⟩ (by intros; simp)
  | .bin o a b, X, sc, Wx, e, h, K => by
    cases e <;> simp only [chkE, Bool.false_eq_true, Bool.and_eq_true] at h
    have := se_bin (pos := by assumption) K h.1.1 (sE a h.1.2 K).1 (sE b h.2 K).1
    exact .of ⟨this, mkT this fun _ => rfl⟩ (by intros; simp)
  | .neg a, X, sc, Wx, e, h, K => by
    cases e <;> try (simp only [chkE, Bool.false_eq_true] at h; done)
    rename_i op x pos
    cases op <;> simp only [chkE, Bool.false_eq_true] at h
    have := se_neg (pos := pos) (sE a h K).1
    exact .of ⟨this, mkT this fun _ => rfl⟩ (by intros; simp)
  | .cmp o a b, X, sc, Wx, e, h, K => by
    cases e <;> try (simp only [chkE, Bool.false_eq_true] at h; done)
    rename_i l ops rs pos
    match ops, rs with
    | [op], [r] =>
      simp only [chkE, Bool.and_eq_true, Bool.not_eq_true'] at h
      exact .of (se_cmp K h.1.1.1 (sE a h.1.1.2 K).1 (sE b h.1.2 K).1 h.2) (by intros; simp)
    | [], _ => simp [chkE] at h
    | [_], [] => simp [chkE] at h
    | [_], _ :: _ :: _ => simp [chkE] at h
    | _ :: _ :: _, _ => simp [chkE] at h
  | .chn o o' a b c, X, sc, Wx, e, h, K => by
    cases e <;> try (simp only [chkE, Bool.false_eq_true] at h; done)
    rename_i l ops rs pos
    match ops, rs with
    | [op, op'], [m, r] =>
      simp only [chkE, Bool.and_eq_true, Bool.not_eq_true'] at h
      exact .of (se_chn K h.1.1.1.1.1 h.1.1.1.1.2 (sE a h.1.1.1.2 K).1 (sE b h.1.1.2 K).1 (sE c h.1.2 K).1 h.2) (by intros; simp)
    | [], _ => simp [chkE] at h
    | [_], _ => simp [chkE] at h
    | [_, _], [] => simp [chkE] at h
    | [_, _], [_] => simp [chkE] at h
    | [_, _], _ :: _ :: _ :: _ => simp [chkE] at h
    | _ :: _ :: _ :: _, _ => simp [chkE] at h
  | .and a b, X, sc, Wx, e, h, K => by
    cases e <;> try (simp only [chkE, Bool.false_eq_true] at h; done)
    rename_i op xs pos
    cases op <;> try (simp only [chkE, Bool.false_eq_true] at h; done)
    match xs with
    | [] => simp [chkE] at h
    | [_] => simp [chkE] at h
    | [x, y] =>
      simp only [chkE, Bool.and_eq_true] at h
      have hb := (sE b h.2 K).1
      have := se_and (pos := pos) K (sE a h.1 K).1 (pe_one hb.1) (pw_and1 hb.2)
      exact ⟨⟨this.1, this.2.pt⟩, fun _ _ _ _ => this.2⟩
    | x :: y :: z :: r =>
      simp only [chkE, Bool.and_eq_true] at h
      have hb := sE b h.2 K
      have := se_and (pos := pos) K (sE a h.1 K).1 hb.1.1 (hb.2 _ _ _ rfl)
      exact ⟨⟨this.1, this.2.pt⟩, fun _ _ _ _ => this.2⟩
  | .or a b, X, sc, Wx, e, h, K => by
    cases e <;> try (simp only [chkE, Bool.false_eq_true] at h; done)
    rename_i op xs pos
    cases op <;> try (simp only [chkE, Bool.false_eq_true] at h; done)
    match xs with
    | [] => simp [chkE] at h
    | [_] => simp [chkE] at h
    | [x, y] =>
      simp only [chkE, Bool.and_eq_true] at h
      have hb := (sE b h.2 K).1
      have := se_or (pos := pos) K (sE a h.1 K).1 (pe_one hb.1) (pw_or1 hb.2)
      exact ⟨⟨this.1, this.2.pt⟩, fun _ _ _ _ => this.2⟩
    | x :: y :: z :: r =>
      simp only [chkE, Bool.and_eq_true] at h
      have hb := sE b h.2 K
      have := se_or (pos := pos) K (sE a h.1 K).1 hb.1.1 (hb.2 _ _ _ rfl)
      exact ⟨⟨this.1, this.2.pt⟩, fun _ _ _ _ => this.2⟩
  | .not a, X, sc, Wx, e, h, K => by
    cases e <;> try (simp only [chkE, Bool.false_eq_true] at h; done)
    rename_i op x pos
    cases op <;> simp only [chkE, Bool.false_eq_true] at h
    exact .of (se_not K (sE a h K).1) (by intros; simp)
  | .ife c a b, X, sc, Wx, e, h, K => by
    cases e <;> simp only [chkE, Bool.false_eq_true, Bool.and_eq_true] at h
    exact .of (se_ife K (sE c h.1.1 K).1 (sE a h.1.2 K).1 (sE b h.2 K).1) (by intros; simp)
  | .tup es, X, sc, Wx, e, h, K => by
    cases e <;> simp only [chkE, Bool.false_eq_true] at h
    have := se_tup (k := by assumption) (pos := by assumption) (pa_of (sEs es h K))
    exact .of ⟨this, mkT this fun _ => rfl⟩ (by intros; simp)
  | .lst es, X, sc, Wx, e, h, K => by
    cases e <;> simp only [chkE, Bool.false_eq_true] at h
    have := se_lst (pos := by assumption) (pa_of (sEs es h K))
    exact .of ⟨this, mkT this fun _ => rfl⟩ (by intros; simp)
  | .dic t ks vs, X, sc, Wx, e, h, K => by
    cases e <;> try (simp only [chkE, Bool.false_eq_true] at h; done)
    rename_i xs ys pos
    simp only [chkE, Bool.and_eq_true, List.isEmpty_iff] at h
    obtain ⟨⟨⟨rfl, rfl⟩, rfl⟩, rfl⟩ := h
    have := se_dic (X := X) (M := M) (Wx := Wx) (cf := cf) (t := t) (pos := pos)
    exact .of ⟨this, mkT this fun _ => rfl⟩ (by intros; simp)
  | .ix a i, X, sc, Wx, e, h, K => by
    cases e <;> try (simp only [chkE, Bool.false_eq_true] at h; done)
    rename_i x y pos
    simp only [chkE, Bool.and_eq_true, Bool.not_eq_true'] at h
    have := se_ix (pos := pos) K (sE a h.1.1 K).1 (sE i h.1.2 K).1 h.2
    exact .of ⟨this, mkT this fun _ => rfl⟩ (by intros; simp)
  | .slc a lo hi, X, sc, Wx, e, h, K => by
    cases e <;> try (simp only [chkE, Bool.false_eq_true] at h; done)
    rename_i x y pos
    cases y <;> try (simp only [chkE, Bool.false_eq_true] at h; done)
    rename_i l u st p2
    cases st <;> simp only [chkE, Bool.false_eq_true, Bool.and_eq_true] at h
    obtain ⟨⟨h0, h1⟩, h2⟩ := h
    have hl : OptE M X Wx cf lo l := by
      cases l with
      | none => exact List.isEmpty_iff.mp h1
      | some l => cases sEs lo h1 K with
        | cons q1 q2 => cases q2; exact ⟨_, rfl, q1.1⟩
    have hu : OptE M X Wx cf hi u := by
      cases u with
      | none => exact List.isEmpty_iff.mp h2
      | some l => cases sEs hi h2 K with
        | cons q1 q2 => cases q2; exact ⟨_, rfl, q1.1⟩
    have := se_slc (p2 := p2) (pos := pos) K (sE a h0 K).1 hl hu
    exact .of ⟨this, mkT this fun _ => rfl⟩ (by intros; simp)
  | .gst g s, X, sc, Wx, e, h, K => by
    cases e <;> simp only [chkE, Bool.false_eq_true, Bool.and_eq_true] at h
    have := se_gst (pos := by assumption) (n := n) (M := M) (cf := cf) K (of_decide_eq_true h.1.1) h.1.2 h.2
    exact .of ⟨this, mkT this fun _ => rfl⟩ (by intros; simp)
  | .gni g i, X, sc, Wx, e, h, K => by
    cases e <;> simp only [chkE, Bool.false_eq_true, Bool.and_eq_true] at h
    have := se_gni (pos := by assumption) (n := n) (M := M) (cf := cf) K (of_decide_eq_true h.1.1) h.1.2 h.2
    exact .of ⟨this, mkT this fun _ => rfl⟩ (by intros; simp)
  | .back a, X, sc, Wx, e, h, K => by
    unfold chkE at h
    cases eb : backOf e with
    | none => rw [eb] at h; cases h
    | some x =>
    rw [eb] at h
    obtain ⟨k, p1, p2, p3, pos, rfl⟩ := backOf_ok eb
    have := se_back (k := k) (p1 := p1) (p2 := p2) (p3 := p3) (pos := pos) (sE a h K).1
    exact .of ⟨this, mkT this fun _ => rfl⟩ (by intros; simp)
  | .fld a f, X, sc, Wx, e, h, K => by
    cases e <;> try (simp only [chkE, Bool.false_eq_true] at h; done)
    rename_i x g pos
    simp only [chkE, Bool.and_eq_true, decide_eq_true_eq, Bool.not_eq_true'] at h
    obtain ⟨hh, ⟨h1, rfl⟩, h2⟩ := h
    have := se_fld (f := f) (pos := pos) K hh (sE a h1 K).1 h2
    exact .of ⟨this, mkT this fun _ => rfl⟩ (by intros; simp)
  | .cal f es, X, sc, Wx, e, h, K => by
    cases e <;> try (simp only [chkE, Bool.false_eq_true] at h; done)
    rename_i fn xs kw pos
    cases fn <;> try (simp only [chkE, Bool.false_eq_true] at h; done)
    cases kw <;> simp only [chkE, Bool.false_eq_true, Bool.and_eq_true, Bool.not_eq_true'] at h
    obtain ⟨hh, h⟩ := h
    have := se_cal (p := by assumption) (pos := pos) K hh h.1.1.1 h.1.1.2 h.1.2 h.2 (pa_of (sEs es h.2 K))
    exact .of ⟨this, mkT this fun _ => rfl⟩ (by intros; simp)
  | .cav f es, X, sc, Wx, e, h, K => by
    cases e <;> try (simp only [chkE, Bool.false_eq_true] at h; done)
    rename_i fn xs kw pos
    cases fn <;> try (simp only [chkE, Bool.false_eq_true] at h; done)
    cases kw <;> simp only [chkE, Bool.false_eq_true, Bool.and_eq_true, Bool.not_eq_true'] at h
    obtain ⟨hh, h⟩ := h
    have := se_cav (p := by assumption) (pos := pos) K hh h.1.1.1 h.1.1.2 h.1.2 h.2 (pa_of (sEs es h.2 K))
    exact .of ⟨this, mkT this fun _ => rfl⟩ (by intros; simp)
  | .new f es, X, sc, Wx, e, h, K => by
    cases e <;> try (simp only [chkE, Bool.false_eq_true] at h; done)
    rename_i fn xs kw pos
    cases fn <;> try (simp only [chkE, Bool.false_eq_true] at h; done)
    cases kw <;> simp only [chkE, Bool.false_eq_true, Bool.and_eq_true, decide_eq_true_eq, Bool.not_eq_true'] at h
    obtain ⟨hh, h⟩ := h
    have := se_new (p := by assumption) (pos := pos) K hh h.1.1.1.1 h.1.1.1.2 h.1.1.2 h.1.2 h.2 (pa_of (sEs es h.2 K))
    exact .of ⟨this, mkT this fun _ => rfl⟩ (by intros; simp)
  | .met o m es, X, sc, Wx, e, h, K => by
    cases e <;> try (simp only [chkE, Bool.false_eq_true] at h; done)
    rename_i fn xs kw pos
    cases fn <;> try (simp only [chkE, Bool.false_eq_true] at h; done)
    rename_i y g ap
    cases kw <;> simp only [chkE, Bool.false_eq_true, Bool.and_eq_true, decide_eq_true_eq, Bool.not_eq_true'] at h
    obtain ⟨hh, ⟨⟨⟨⟨h1, rfl⟩, h2⟩, h3⟩, h4⟩, h5⟩ := h
    have := se_met (m := m) K hh (sE o h1 K).1 h2 h3 h4 h5 (pa_of (sEs es h4 K))
    exact .of ⟨this, mkT this fun _ => rfl⟩ (by intros; simp)
  | .blt b es, X, sc, Wx, e, h, K => by
    cases e <;> try (simp only [chkE, Bool.false_eq_true] at h; done)
    rename_i fn xs kw pos
    cases fn <;> try (simp only [chkE, Bool.false_eq_true] at h; done)
    rename_i x p
    cases kw <;> simp only [chkE, Bool.false_eq_true, Bool.and_eq_true, Bool.not_eq_true'] at h
    obtain ⟨hh, ⟨h1, h2⟩, h3⟩ := h
    have : PE X (.Call (.Name x p) xs [] pos) (tE (M.g X.K) Wx (evalE M.W cf M.cx (.blt b es))) := by
      cases hb : bfName b with
      | some nf =>
        obtain ⟨nm, fl⟩ := nf
        rw [hb] at h3
        simp only [Bool.and_eq_true, decide_eq_true_eq, Bool.not_eq_true', List.isEmpty_eq_false_iff] at h3
        exact se_blt K hh h1 h2 hb h3.1.1 h3.1.2 h3.2 (sEs es h3.1.2 K)
      | none =>
        rw [hb] at h3
        simp only at h3
        split at h3
        · rename_i T a y p2 hT
          simp only [Bool.and_eq_true, decide_eq_true_eq] at h3
          obtain ⟨⟨⟨⟨rfl, rfl⟩, h4⟩, h5⟩, h6⟩ := h3
          have := sEs es h6 K
          exact se_isi K h1 h4 hT (by cases this with | cons q1 q2 => exact q1.2) this
        · cases h3
    exact .of ⟨this, mkT this fun _ => rfl⟩ (by intros; simp)
  | .lc own tg k its cd el, X, sc, Wx, e, h, K => by
    cases e <;> try (simp only [chkE, Bool.false_eq_true] at h; done)
    rename_i elt gens scope pos
    match gens with
    | [] => simp [chkE] at h
    | _ :: _ :: _ => simp [chkE] at h
    | [⟨tg', iter, ifs, asy⟩] =>
        simp only [chkE, Bool.and_eq_true, Bool.not_eq_true', decide_eq_true_eq, List.all_eq_true] at h
        obtain ⟨⟨⟨⟨⟨⟨⟨⟨⟨hh, rfl⟩, h1⟩, h2⟩, h3⟩, h4⟩, h5⟩, h6⟩, h7⟩, h8⟩ := h
        have hpi : PI X tg' iter (tI X M Wx (evalEs M.W cf M.cx its) k) := by
          cases k <;> simp only [Bool.false_eq_true, Bool.and_eq_true, decide_eq_true_eq] at h8
          · cases sEs its h8.1 K with
            | cons q1 q2 => cases q2; exact pi_seq K q1.1
          · split at h8
            · rename_i p a pos
              simp only [Bool.and_eq_true, decide_eq_true_eq] at h8
              obtain ⟨⟨rfl, h9⟩, h10⟩ := h8
              have := sEs its h10 K
              exact pi_rng1 K h9 (by cases this with | cons q1 q2 => exact q1.2) (pa_of this)
            · cases h8
          · split at h8
            · rename_i p a b pos
              simp only [Bool.and_eq_true, decide_eq_true_eq] at h8
              obtain ⟨⟨rfl, h9⟩, h10⟩ := h8
              have := sEs its h10 K
              exact pi_rng2 K h9 (by cases this with | cons q1 q2 => exact q1.2) (by cases this with | cons q1 q2 => cases q2 with | cons q3 q4 => exact q3.2) (pa_of this)
            · cases h8
        have := se_lc (pos := pos) (scope := scope) K hh h1 h2 h3 hpi h7 (cd := cd) (ifs := ifs) (fun {X'} e K' => by
          rw [← e]
          refine pts_of ?_
          cases sEs cd h4 K' with
          | nil => rfl
          | cons q1 q2 =>
            cases q2 with
            | nil => exact ⟨_, rfl, q1.1⟩
            | cons _ _ => simp at h5) (fun {X'} e K' => by rw [← e]; exact (sE el h6 K').1.1)
        exact .of ⟨this, mkT this fun _ => rfl⟩ (by intros; simp)
  | .exf i f, X, sc, Wx, e, h, K => by
    cases e <;> try (simp only [chkE, Bool.false_eq_true] at h; done)
    rename_i x g pos
    cases x <;> try (simp only [chkE, Bool.false_eq_true] at h; done)
    simp only [chkE, Bool.and_eq_true, decide_eq_true_eq] at h
    obtain ⟨⟨⟨⟨⟨h1, h2⟩, h3⟩, h4⟩, h5⟩, rfl⟩ := h
    have := K.exr i _ f (by assumption) pos h1 h2 (isC_ok h3) (K.vis _ h4) h5
    exact .of ⟨this, mkT this fun _ => rfl⟩ (by intros; simp)
theorem sEs : ∀ (es : List E) {X : Cx} {sc : Scope} {Wx : WX} {xs : List Expr}, chkEs C es sc xs = true → Cok X M C sc n Wx cf → SL2 M X Wx cf es xs
  | [], X, sc, Wx, [], _, _ => .nil
  | e :: es, X, sc, Wx, x :: xs, h, K => by
    simp only [chkEs, Bool.and_eq_true, Bool.not_eq_true'] at h
    exact .cons ⟨(sE e h.1.1 K).1, h.1.2⟩ (sEs es h.2 K)
  | [], X, sc, Wx, _ :: _, h, _ => by simp [chkEs] at h
  | _ :: _, X, sc, Wx, [], h, _ => by simp [chkEs] at h
end
end
end Rf
end

section
set_option maxHeartbeats 2000000
namespace Rf
open PySem PySem.Spec PyProof.Rows L2

/-! ## try with several clauses, with names and without -/
abbrev Cls1 : Type := Value × Option Nat × (Addr → Value → Option Addr → TS)
def endsO (o : Option Nat) (D : Ends) : Ends := match o with
  | none => D
  | some i => ⟨fun s G => D.nx (s.set i none) G, D.rt, fun s G => D.bk (s.set i none) G, fun s G => D.ct (s.set i none) G⟩
def slotO (o : Option Nat) (a : Addr) (σ : L2.St) : L2.St := match o with
  | none => σ
  | some i => σ.set i (some (.ref a))
def wMix (K : PySem.W.Frag) (Wo : WX) (D : Ends) : List Cls1 → WX
  | [] => Wo
  | q :: r => fun cl dx σ G => ∃ t, PySem.W.exmOne K cl q.1 = some t ∧ (t = true → ∀ z, G z = none → q.2.2 z cl dx (endsO q.2.1 D) (slotO q.2.1 z σ) G) ∧ (t = false → wMix K Wo D r cl dx σ G)
def nmOk (X : Cx) : Option Str → Option Nat → Prop
  | none, none => True
  | some y, some i => X.N[i]? = some y ∧ X.env.kindOf y = some .local
  | _, _ => False
inductive HdsX (X : Cx) : List ExceptHandler → List Cls1 → Prop
  | nil : HdsX X [] []
  | cons {x : Str} {c : Value} {ts : Addr → Value → Option Addr → TS} {o : Option Nat} {y : Option Str} {st : Stmt} {sts : List Stmt} {p1 p2 : Pos} {hs : List ExceptHandler} {l : List Cls1} (h1 : Names X x c) (h2 : nmOk X y o)
      (h3 : ∀ (z : Addr) (oz : Obj) (cl : Value) (dx : Option Addr) (ps : List (Addr × Obj)), Zc cl dx oz → (∃ vs, oz.data = .fields vs) → PSs (X.suite z ((z, oz) :: ps)) (st :: sts) (ts z cl dx)) (h4 : HdsX X hs l) :
      HdsX X (.ExceptHandler (some (.Name x p1)) y (st :: sts) p2 :: hs) ((c, o, ts) :: l)
section
variable {X : Cx} {body : List Stmt} {e₀ : ExceptHandler} {es : List ExceptHandler} {l : List Cls1} {pos : Pos} {tb : WX → TS} {Wo : WX}
theorem try_mix (hs : X.stack = X.env :: X.outer) (hf : X.env.frame = some X.env.locals) (nd : X.N.Nodup) (tk : Takes X Wo)
    (hb : ∀ (W : WX) (ps : List (Addr × Obj)) (xe : Value → Shared → Prop), Takes (X.tr ps xe) W → PassesOwn (model X.prog X.w) X.A X.env xe → PSs (X.tr ps xe) body (tb W))
    (hh : HdsX X (e₀ :: es) l) : PS X (.Try body (e₀ :: es) [] [] pos) (fun D σ G => tb (wMix X.K Wo D l) D σ G) := by
  refine ⟨fun pins s₀ σ₀ G₀ D I₀ q₀ => ?_⟩
  have ok := I₀.ok
  have fr : X.A.frames = some (X.env :: X.outer) := ok.frames.trans (congrArg some hs)
  refine wpAny_Try_except ?_
  refine wpAny_mono ((hb (wMix X.K Wo D l) (X.pn ++ pins) (fun e t1 => wpAny (model X.prog X.w) X.A (noteFrame e X.env) (fun _ t2 => wpAny (model X.prog X.w) X.A (setFlight e none) (fun _ t3 =>
    wpAny (model X.prog X.w) X.A (handleBy e X.env (e₀ :: es)) (SP X pins D) X.xe t3) X.xe t2) X.xe t1) (fun u t xx => ?_) PassesOwn.looking).run [] s₀ σ₀ G₀ D (I₀.toTry _) q₀) (fun f t1 w1 => ?_) (fun e t1 w1 => w1)
  · obtain ⟨z, B, sI, ps', σ, G, cl, dx, rfl, J1, nb, up, sky, nz, eo, ag, w⟩ := xx
    have J : Inv X pins σ G sI := J1.ofTry ok
    rw [show (X.tr (X.pn ++ pins) _).stack = X.env :: X.outer from hs] at sky
    show wpAny (model X.prog X.w) X.A (noteFrame (.ref z) X.env) _ _ _
    refine Sky.land Zc.steady fr hf sky fun g3 fl up3 => ?_
    have J3 : Inv X pins σ G { t with heap := g3 } := J.landed nb fl.1 (up.trans up3) eo ag
    obtain ⟨oz, vz, ez, hz, hd⟩ := fl.there
    have far : z ∉ frs (X.env :: X.outer) := fun hm => by
      obtain ⟨_, o', e', hn⟩ := fl.2.2.1.mem hm
      rw [ez] at e'; cases e'
      exact hn _ hd
    have nL : z ≠ X.env.locals := fun q => far (List.mem_filterMap.mpr ⟨X.env, .head _, by rw [hf, q]⟩)
    have nF : z ∉ X.fs := fun hm => by
      obtain ⟨e, me, q⟩ := List.mem_filterMap.mp hm
      exact far (List.mem_filterMap.mpr ⟨e, .tail _ me, q⟩)
    have S3 := J3.suite ez hd nz nL nF
    suffices go : ∀ {es' : List ExceptHandler} {l' : List Cls1}, HdsX X es' l' → wMix X.K Wo D l' cl dx σ G → wpAny (model X.prog X.w) X.A (handleBy (.ref z) X.env es') (SP X pins D) X.xe { t with heap := g3 } from go hh w
    intro es' l' hk
    induction hk with
    | nil =>
      intro w
      refine wpAny_handleBy_nil ?_
      obtain ⟨_, _, _, oe, vs, T, oT, ts', he, _, hd', h1, _⟩ := id fl
      unfold PySem.passOn
      refine wpAny_bind (wpAny_field he hd' h1 ?_)
      rw [if_neg (by simp : ¬ ((Value.ref T == Value.none) = true))]
      have fin : wpAny (model X.prog X.w) X.A (setFlight (.ref z) X.env.frame) (fun _ t4 => wpAny (model X.prog X.w) X.A (throw (.ref z) : Sem Flow) (SP X pins D) X.xe t4) X.xe { t with heap := g3 } := by
        rw [hf]
        refine HandSPX.setFlight_upZ fl fun g4 hg4 up4 => wpAny_throw (tk _ _ ?_)
        exact ⟨z, B, sI, pins, σ, G, cl, dx, rfl, J, nb, (up.trans up3).trans up4, .inr (.inr (hs ▸ hg4)), nz, eo, ag, w⟩
      first
        | exact wpAny_bind (wpAny_pure (wpAny_bind fin))
        | exact wpAny_bind fin
    | @cons x c ts o y st sts p1 p2 hs2 l2 hc hn hsu r ih =>
      intro w
      obtain ⟨t0, ht, yes, no⟩ := w
      refine wpAny_handleBy_cons (codeAny_handlers_test ?_) (by intro q; cases q)
      have LT : PySem.W.Looks (model X.prog X.w) g3 (typeOf (.ref z)) cl := fun _ _ _ _ k q => wpAny_typeOf_ref (k _ _ ez) (hz.1.symm ▸ q)
      have LM := PySem.W.exm_one (M := model X.prog X.w) J3.kIn LT ht
      have look : ∀ {Q : Value → Shared → Prop} {E : Value → Shared → Prop}, Q c { t with heap := g3 } → wpAny (model X.prog X.w) (X.A.mark (some (.ref z))) (eval (.Name x p1) X.env) Q E { t with heap := g3 } := fun {Q E} q => by
        obtain ⟨hg, hdb, hm | ⟨hm, hv, hnn⟩⟩ := hc
        · exact ld_glob (X := X.suite z ((z, oz) :: (X.pn ++ pins))) S3 hg hm q hdb
        · exact ld_blt (X := X.suite z ((z, oz) :: (X.pn ++ pins))) S3 hg hm hv q hnn hdb
      refine look (LM.here ?_)
      cases t0 with
      | false =>
        show wpAny _ X.A (handleBy (.ref z) X.env hs2) _ _ _
        exact ih (no rfl)
      | true =>
        cases o with
        | none =>
          cases y with
          | some _ => exact hn.elim
          | none =>
            refine codeAny_handlers_suite ?_
            refine HandSPX.lands_againZ fl fun g4 fl4 up4 => ?_
            have J4 : Inv X pins σ G { t with heap := g4 } := J.landed nb fl4.1 ((up.trans up3).trans up4) eo ag
            obtain ⟨o4, v4, e4, z4, d4⟩ := fl4.there
            have S4 := J4.suite e4 d4 nz nL nF
            refine wpAny_mono ((hsu z o4 cl dx (X.pn ++ pins) z4 ⟨_, d4⟩).run [] _ _ G _ S4 (yes rfl z nz)) (fun f t6 w6 => ?_) (fun _ _ q => q.elim)
            cases f with
            | ret u =>
              obtain ⟨v6, σ6, G6, S6, r6, q6⟩ := w6
              exact ⟨v6, σ6, G6, S6.unsuite ok, r6, q6⟩
            | _ =>
              obtain ⟨σ6, G6, S6, q6⟩ := w6
              exact ⟨σ6, G6, S6.unsuite ok, q6⟩
        | some i =>
          cases y with
          | none => exact hn.elim
          | some y =>
            obtain ⟨hi, hl⟩ := hn
            refine codeAny_handlers_suite_as ?_
            refine HandSPX.lands_againZ fl fun g4 fl4 up4 => ?_
            have J4 : Inv X pins σ G { t with heap := g4 } := J.landed nb fl4.1 ((up.trans up3).trans up4) eo ag
            obtain ⟨o4, v4, e4, z4, d4⟩ := fl4.there
            have S4 := J4.suite e4 d4 nz nL nF
            refine store_ok (X := X.suite z ((z, o4) :: (X.pn ++ pins))) (v := .ref z) S4 nd hi (.inl hl) rfl (fun t5 S5 => ?_) (.inr hl)
            refine wpAny_mono ((hsu z o4 cl dx (X.pn ++ pins) z4 ⟨_, d4⟩).run [] t5 _ G _ S5 (yes rfl z nz)) (fun f t6 w6 => ?_) (fun _ _ q => q.elim)
            have gone : ∀ {σ6 : L2.St} {G6 : Hp} {Q : Shared → Prop}, Inv (X.suite z ((z, o4) :: (X.pn ++ pins))) [] σ6 G6 t6 → (∀ t7, Inv X pins (σ6.set i none) G6 t7 → Q t7) →
                wpAny (model X.prog X.w) X.A (do bindName X.env y .none; unbindBehindTheSuite X.env y p2) (fun _ t7 => Q t7) X.xe t6 := fun {σ6 G6 Q} S6 hq => gone_ok (S6.unsuite ok) nd hi hl hq
            cases f with
            | ret u =>
              obtain ⟨v6, σ6, G6, S6, r6, q6⟩ := w6
              exact gone S6 fun t7 J7 => ⟨v6, _, G6, J7, r6, q6⟩
            | _ =>
              obtain ⟨σ6, G6, S6, q6⟩ := w6
              exact gone S6 fun t7 J7 => ⟨_, G6, J7, q6⟩
  · cases f with
    | ret u =>
      obtain ⟨v, σ', G', J', r, q⟩ := w1
      exact ⟨v, σ', G', J'.ofTry ok, r, q⟩
    | next =>
      obtain ⟨σ', G', J', q⟩ := w1
      exact wpAny_execs_nil ⟨σ', G', J'.ofTry ok, q⟩
    | _ =>
      obtain ⟨σ', G', J', q⟩ := w1
      exact ⟨σ', G', J'.ofTry ok, q⟩
end
end Rf
end

section
set_option maxHeartbeats 2000000
namespace Rf
open PySem PySem.Spec PyProof.Rows L2

/-! ## the __init__ of an exception -/
def chkI (N : List Str) (sc : Scope) : Nat → List String → List Stmt → Bool
  | _, [], [] => true
  | k, f :: fl, .Assign [.Attribute (.Name x _) g _] (.Name y _) _ :: r => isC N 0 x && visB sc x && okN x && decide (Str.ofString f = g) && isC N (k + 1) y && visB sc y && okN y && chkI N sc (k + 1) fl r
  | _, _, _ => false
theorem chkI_inv {N : List Str} {sc : Scope} {k : Nat} {f : String} {fl : List String} {st : Stmt} {r : List Stmt} (h : chkI N sc k (f :: fl) (st :: r) = true) :
    ∃ x p1 p2 y p3 pos, st = .Assign [.Attribute (.Name x p1) (Str.ofString f) p2] (.Name y p3) pos ∧ isC N 0 x = true ∧ visB sc x = true ∧ okN x = true ∧ isC N (k + 1) y = true ∧ visB sc y = true ∧ okN y = true ∧ chkI N sc (k + 1) fl r = true := by
  unfold chkI at h
  split at h
  · rename_i e1 e2; cases e1
  · rename_i e1 e2
    cases e1
    cases e2
    simp only [Bool.and_eq_true, decide_eq_true_eq] at h
    obtain ⟨⟨⟨⟨⟨⟨⟨h1, h2⟩, h3⟩, rfl⟩, h4⟩, h5⟩, h6⟩, h7⟩ := h
    exact ⟨_, _, _, _, _, _, rfl, h1, h2, h3, h4, h5, h6, h7⟩
  · cases h
section
variable {X : Cx} {Ca : Addr} {sc : Scope}
theorem init_rest (T : OexC X.K Ca) (hv : ∀ x, visB sc x = true → Vis X.env.scope x) : ∀ (fl : List String) (k : Nat) (body : List Stmt), chkI X.N sc k fl body = true → (∀ f ∈ fl, PySem.W.findIn X.K (.ref Ca) (Str.ofString f) = some none) →
    ∃ t, PSs X body t ∧ ∀ (D : Ends) (σ : L2.St) (H : Hp) (a d : Addr) (ws : List V) (done : List (Str × V)), σ[0]? = some (some (.ref a)) → ws.length = fl.length → (∀ (j : Nat) (w : V), ws[j]? = some w → σ[k + 1 + j]? = some (some w)) →
      H a = some (exo a Ca (some d)) → H d = some (exd d done) → done.length + fl.length ≤ 900 → a ≠ d →
      (∀ H2 : Hp, H2 a = some (exo a Ca (some d)) → H2 d = some (exd d (((fl.map Str.ofString).zip ws).reverse ++ done)) → (∀ b, b ≠ a → b ≠ d → H2 b = H b) → D.nx σ H2) → t D σ H
  | [], k, [], _, _ => ⟨_, pss_nil, fun D σ H a d ws done h0 hl hw h1 h2 h3 ne q => q H h1 (by simpa using h2) (fun _ _ _ => rfl)⟩
  | [], k, _ :: _, h, _ => by simp [chkI] at h
  | f :: fl, k, [], h, _ => by simp [chkI] at h
  | f :: fl, k, st :: r, h, hf => by
    · obtain ⟨x, p1, p2, y, p3, pos, rfl, h1, h2, h3, h4, h5, h6, h7⟩ := chkI_inv h
      obtain ⟨t, ht, rt⟩ := init_rest T hv fl (k + 1) r h7 (fun z hz => hf z (List.mem_cons_of_mem _ hz))
      obtain ⟨a1, a2, _⟩ := okN_ok h3
      obtain ⟨b1, b2, _⟩ := okN_ok h6
      refine ⟨_, pss_cons (ps_ost (pe_var (pos := p1) (isC_ok h1) (hv x h2) a1 a2) (pe_var (pos := p3) (isC_ok h4) (hv y h5) b1 b2)) ht, ?_⟩
      intro D σ H a d ws done h0 hl hw ha hd hn ne q
      cases ws with
      | nil => simp at hl
      | cons w ws =>
        refine ⟨w, by simpa using hw 0 w rfl, .ref a, h0, a, Ca, rfl, T, hf f List.mem_cons_self, .inr ⟨d, done, ha, hd, by simp at hn; omega, ?_⟩⟩
        refine rt D σ _ a d ws ((Str.ofString f, w) :: done) h0 (by simpa using hl) (fun j v e => by have := hw (j + 1) v (by simpa using e); rw [show k + 1 + (j + 1) = k + 1 + 1 + j by omega] at this; exact this)
          (by rw [upd_ne ne]; exact ha) upd_same (by simp at hn ⊢; omega) ne fun H2 g1 g2 g3 => q H2 g1 (by rw [g2]; simp) fun b hb hb2 => by rw [g3 b hb hb2, upd_ne hb2]
theorem init_first (T : OexC X.K Ca) (hv : ∀ x, visB sc x = true → Vis X.env.scope x) : ∀ (fl : List String) (body : List Stmt), 0 < fl.length → fl.length ≤ 900 → chkI X.N sc 0 fl body = true → (∀ f ∈ fl, PySem.W.findIn X.K (.ref Ca) (Str.ofString f) = some none) →
    ∃ t, PSs X body t ∧ ∀ (D : Ends) (σ : L2.St) (H : Hp) (a : Addr) (ws : List V), σ[0]? = some (some (.ref a)) → ws.length = fl.length → (∀ (j : Nat) (w : V), ws[j]? = some w → σ[1 + j]? = some (some w)) →
      H a = some (exo a Ca none) →
      (∀ (d : Addr) (H2 : Hp), H d = none → d ≠ a → H2 a = some (exo a Ca (some d)) → H2 d = some (exd d ((fl.map Str.ofString).zip ws).reverse) → (∀ b, b ≠ a → b ≠ d → H2 b = H b) → D.nx σ H2) → t D σ H
  | [], _, h, _, _, _ => by simp at h
  | f :: fl, [], _, _, h, _ => by simp [chkI] at h
  | f :: fl, st :: r, _, hn, h, hf => by
    · obtain ⟨x, p1, p2, y, p3, pos, rfl, h1, h2, h3, h4, h5, h6, h7⟩ := chkI_inv h
      obtain ⟨t, ht, rt⟩ := init_rest T hv fl 1 r h7 (fun z hz => hf z (List.mem_cons_of_mem _ hz))
      obtain ⟨a1, a2, _⟩ := okN_ok h3
      obtain ⟨b1, b2, _⟩ := okN_ok h6
      refine ⟨_, pss_cons (ps_ost (pe_var (pos := p1) (isC_ok h1) (hv x h2) a1 a2) (pe_var (pos := p3) (isC_ok h4) (hv y h5) b1 b2)) ht, ?_⟩
      intro D σ H a ws h0 hl hw ha q
      cases ws with
      | nil => simp at hl
      | cons w ws =>
        refine ⟨w, by simpa using hw 0 w rfl, .ref a, h0, a, Ca, rfl, T, hf f List.mem_cons_self, .inl ⟨ha, fun d hd ne => ?_⟩⟩
        refine rt D σ _ a d ws [(Str.ofString f, w)] h0 (by simpa using hl) (fun j v e => by have := hw (j + 1) v (by simpa using e); rw [show 1 + (j + 1) = 1 + 1 + j by omega] at this; exact this)
          upd_same (by rw [upd_ne ne, upd_same]) (by simp at hn ⊢; omega) (Ne.symm ne) fun H2 g1 g2 g3 => q d H2 hd ne g1 (by rw [g2]; simp) fun b hb hb2 => by rw [g3 b hb hb2, upd_ne hb, upd_ne hb2]
end
theorem init_ok {P : Program} {w : World} {K : PySem.W.Frag} {mg : Str → Option Value} {base : Heap} {x qual : Str} {params : Arguments} {body : List Stmt} {scope : Scope} {fI Ca : Addr} {fd : FuncData} {N ps : List Str} {fl : List String}
    (F : FunD K x qual params body scope [] [] fI fd) (S : FnScope N ps scope) (T : OexC K Ca) (h0 : 0 < fl.length) (h9 : fl.length ≤ 900) (hc : chkI N scope 0 fl body = true) (hl : ps.length = fl.length + 1) (hN : N = ps) (hf : ∀ f ∈ fl, PySem.W.findIn K (.ref Ca) (Str.ofString f) = some none) :
    FnOk P w K mg base CX0 1 fI fd ps (spX Ca fl) := by
  refine F.ok S (fun vs H Q E h => ?_) (fun cdv A outer s H vs Q E hr hsp => ?_)
  · obtain ⟨a, ws, rfl, h1, _⟩ := h
    rw [hl, List.length_cons, h1]
  · obtain ⟨a, ws, rfl, h1, ha, q⟩ := hsp
    obtain ⟨t, ht, rt⟩ := init_first (X := cxOf CX0 P w K mg base N qual scope fI cdv A outer s H E) (sc := scope) T (fun x hx => visB_cases hx) fl body h0 h9 hc hf
    refine ⟨t, ht, rt _ _ H a ws ?_ h1 (fun j v e => ?_) ha fun d H2 hd ne g1 g2 g3 => q d H2 hd ne g1 g2 g3⟩
    · unfold L2.start; simp
    · unfold L2.start
      have hj : j < ws.length := (List.getElem?_eq_some_iff.mp e).1
      rw [List.getElem?_append_left (by simp; omega), List.getElem?_map, show 1 + j = j + 1 by omega, List.getElem?_cons_succ, e]; rfl
end Rf
end

section
namespace Rf
open PySem PySem.Spec PyProof.Rows L2

/-! ## statements -/
def isCompr : Expr → Bool
  | .ListComp _ _ _ _ => true | .SetComp _ _ _ _ => true | .DictComp _ _ _ _ _ => true | _ => false
theorem sw_no {e : Expr} (h : isCompr e = false) (t : Option Expr) (l : Nat) (env : Env) : swapsWith e t l env = pure false := by
  cases e <;> first | rfl | (simp [isCompr] at h)
theorem sw_at {e o i : Expr} {p : Pos} (l : Nat) (env : Env) : swapsWith e (some (.Subscript o i p)) l env = pure false := by
  cases e <;> rfl
theorem sw_fld {e o : Expr} {f : Str} {p : Pos} (l : Nat) (env : Env) : swapsWith e (some (.Attribute o f p)) l env = pure false := by
  cases e <;> rfl
/-- the name's line is not the comprehension's -/
def apartB (p : Pos) (v : Expr) : Bool := !(p.line == v.pos.line)
theorem sw_apart {e : Expr} {y : Str} {p : Pos} (h : apartB p e = true) (l : Nat) (env : Env) : swapsWith e (some (.Name y p)) l env = pure false := by
  unfold apartB at h
  have h' : (p.line == e.pos.line) = false := by simpa using h
  cases e <;> first | rfl | (unfold swapsWith; simp only [h']; simp; rfl) | (unfold swapsWith; simp only [h']; simp)
def isTupE : Expr → Bool
  | .Tuple _ _ _ => true | _ => false
theorem ss_no {tg e : Expr} {env : Env} (h : isTupE e = false) : swappedStores [tg] e env = pure none := by
  cases tg <;> cases e <;> first | rfl | (simp [isTupE] at h)
/-- .. or it is: the name is a local of the def, none of the comprehension's own -/
def hereB (C : Ck) (sc : Scope) (y : Str) (p : Pos) : Expr → Bool
  | .ListComp _ [_] scope pos => !C.hot && kindB sc y .local && (p.line == pos.line) && !(scope.names.any fun (n, k) => n == y && (k == .local || k == .cell))
  | _ => false
/-- the walk's part -/
def walkB (C : Ck) (sc : Scope) (k : Ik) (its : List E) (iter : Expr) : Bool := !isSet iter && (match k with
  | .seq => chkEs C its sc [iter] && decide (its.length = 1)
  | .rng1 => (match iter with | .Call (.Name x _) [a] [] _ => decide (x = Str.ofString "range") && glB sc x && chkEs C its sc [a] | _ => false)
  | .rng2 => (match iter with | .Call (.Name x _) [a, b] [] _ => decide (x = Str.ofString "range") && glB sc x && chkEs C its sc [a, b] | _ => false)
  | _ => false)
def isStr : Expr → Bool
  | .Constant (.str _) _ _ => true | _ => false
mutual
def chkS (C : Ck) (sc : Scope) : S → Stmt → Bool
  | .set i e, .Assign [.Name x p] v _ => isC C.N i x && locB sc x && chkE C e sc v && (!isCompr v || (apartB p v || kindB sc x .cell) || hereB C sc x p v)
  | .setT is e, .Assign [.Tuple es k p] v _ => tgB C sc (.tp is) (.Tuple es k p) && chkE C e sc v && !isTupE v
  | .put o i e, .Assign [.Subscript x y _] v _ => chkE C o sc x && chkE C i sc y && chkE C e sc v
  | .fset o f e, .Assign [.Attribute x g _] v _ => !C.hot && chkE C o sc x && decide (Str.ofString f = g) && chkE C e sc v
  | .aug i o e, .AugAssign (.Name x _) op v _ => isC C.N i x && locB sc x && opB o op && chkE C e sc v
  | .faug a f o e, .AugAssign (.Attribute x g _) op v _ => !C.hot && chkE C a sc x && decide (Str.ofString f = g) && opB o op && chkE C e sc v
  | .expr e, .Expr v _ => chkE C e sc v && !isCompr v
  | .ret e, .Return (some v) _ => chkE C e sc v
  | .retN, .Return none _ => true
  | .ife c a b, .If t x y _ => chkE C c sc t && chkB C sc a x && chkB C sc b y
  | .whl c b, .While t x [] _ => chkE C c sc t && chkB C sc b x
  | .for_ tg k its b, .For tg' iter x [] _ => !C.hot && tgB C sc tg tg' && walkB C sc k its iter && chkB C sc b x
  | .raise c es, .Raise (some (.Call (.Name x _) (y :: xs) [] _)) none _ => !C.hot && decide (c ∈ C.xr) && isC C.cnm c x && glB sc x && okN x && chkEs C es sc (y :: xs)
  | .try_ b hs, .Try x hds [] [] _ => !C.hot && chkB C sc b x && !hds.isEmpty && chkH C sc hs hds
  | .brk, .Break _ => true
  | .cnt, .Continue _ => true
  | .pass, .Pass _ => true
  | .pass, .Expr v _ => isStr v
  | .stuck, _ => true
  | _, _ => false
def chkB (C : Ck) (sc : Scope) : List S → List Stmt → Bool
  | [], [] => true
  | s :: ss, st :: sts => chkS C sc s st && chkB C sc ss sts
  | _, _ => false
def chkH (C : Ck) (sc : Scope) : List (Nat × Option Nat × List S) → List ExceptHandler → Bool
  | [], [] => true
  | (k, o, b) :: r, .ExceptHandler (some (.Name x _)) y (st :: sts) _ :: hds => decide (k ∈ C.xc) && isC C.cnm k x && glB sc x && okN x &&
      (match o, y with | none, none => true | some i, some y => isC C.N i y && kindB sc y .local | _, _ => false) && chkB { C with hot := true, exn := o } sc b (st :: sts) && chkH C sc r hds
  | _, _ => false
end

def postS (G : Gx) (Wx : WX) (as : List Addr) (H : Hp) (r : RS) (D : Ends) : Prop := match r with
  | .ok (.nx σI) h => ∀ as' H' σ', Ext as H as' H' → HI G h as' H' → SL G σI as' H' σ' → D.nx σ' H'
  | .ok (.bk σI) h => ∀ as' H' σ', Ext as H as' H' → HI G h as' H' → SL G σI as' H' σ' → D.bk σ' H'
  | .ok (.ct σI) h => ∀ as' H' σ', Ext as H as' H' → HI G h as' H' → SL G σI as' H' σ' → D.ct σ' H'
  | .ok (.rt d) h => ∀ as' H' v, Ext as H as' H' → HI G h as' H' → Rep G as' H' d v → D.rt v H'
  | .exc c fs σI h => ∀ C dx vs as' H' σ', Ext as H as' H' → HI G h as' H' → G.ca c = some C → H' dx = some (.xd vs) → RepF G as' H' fs vs → SL G σI as' H' σ' → Wx (.ref C) (some dx) σ' H'
  | .no => False
def tS (G : Gx) (Wx : WX) (ev : Sg → Hs → RS) : TS := fun D σ H => ∃ σI h as, SL G σI as H σ ∧ HI G h as H ∧ postS G Wx as H (ev σI h) D
section
variable {G : Gx} {Wx : WX} {as as' : List Addr} {H H' : Hp} {σ : L2.St} {r : RS} {Ds : Ends} {α β : Type} {Rl : List Addr → Hp → α → β → Prop}
theorem postS.mono (x : Ext as H as' H') (p : postS G Wx as H r Ds) : postS G Wx as' H' r Ds := by
  match r with
  | .ok (.nx _) h => exact fun _ _ _ e => p _ _ _ (x.trans e)
  | .ok (.bk _) h => exact fun _ _ _ e => p _ _ _ (x.trans e)
  | .ok (.ct _) h => exact fun _ _ _ e => p _ _ _ (x.trans e)
  | .ok (.rt _) h => exact fun _ _ _ e => p _ _ _ (x.trans e)
  | .exc c fs σI h => exact fun _ _ _ _ _ _ e => p _ _ _ _ _ _ (x.trans e)
  | .no => exact p
theorem postS.stm {q : R α} {σI : Sg} {f : α → Hs → RS} (sl : SL G σI as H σ) (p : postS G Wx as H (q.stm σI f) Ds) :
    post G Wx Rl as H σ q fun v H1 => ∃ d h1 as1, q = .ok d h1 ∧ Ext as H as1 H1 ∧ SL G σI as1 H1 σ ∧ HI G h1 as1 H1 ∧ Rl as1 H1 d v ∧ postS G Wx as1 H1 (f d h1) Ds := by
  cases q with
  | ok d h => exact fun v as2 H2 e i r => ⟨d, h, as2, rfl, e, sl.mono e, i, r, p.mono e⟩
  | exc c fs h => exact fun C dx vs as2 H2 e i k1 k2 k3 => p C dx vs as2 H2 σ e i k1 k2 k3 (sl.mono e)
  | no => exact p
theorem stm1 {ev : Sg → Hs → R D} {f : D → Hs → RS} {σI : Sg} {h : Hs} {Ds : Ends} (sl : SL G σI as H σ) (hi : HI G h as H) (p : postS G Wx as H ((ev σI h).stm σI f) Ds) :
    tE G Wx ev σ H fun x H1 => ∃ d h1 as1, ev σI h = .ok d h1 ∧ Ext as H as1 H1 ∧ SL G σI as1 H1 σ ∧ HI G h1 as1 H1 ∧ Rep G as1 H1 d x ∧ postS G Wx as1 H1 (f d h1) Ds :=
  ⟨σI, h, as, sl, hi, p.stm (Rl := Rep G) sl⟩
theorem stmT {ev : Sg → Hs → R D} {f : Bool → Hs → RS} {σI : Sg} {h : Hs} {Ds : Ends} (sl : SL G σI as H σ) (hi : HI G h as H) (p : postS G Wx as H (((ev σI h).bind truthR).stm σI f) Ds) :
    tT G Wx ev σ H fun x H1 => ∃ h1 as1, Ext as H as1 H1 ∧ SL G σI as1 H1 σ ∧ HI G h1 as1 H1 ∧ postS G Wx as1 H1 (f x h1) Ds :=
  ⟨σI, h, as, sl, hi, (p.stm (Rl := rB) sl).imp fun v H1 ⟨d, h1, as1, _, x, s, i, e, q⟩ => ⟨h1, as1, x, s, i, e ▸ q⟩⟩
theorem R.stm_bind {γ : Type} (q : R α) (f : α → Hs → R γ) (σI : Sg) (g : γ → Hs → RS) : (q.stm σI fun x h => (f x h).stm σI g) = (q.bind f).stm σI g := by
  cases q <;> rfl
end
section
variable {X : Cx} {M : Mx} {C : Ck} {sc : Scope} {n : Nat} {Wx : WX} {cf : CF}
theorem ps_imp {st : Stmt} {t t' : TS} (h : PS X st t) (i : ∀ D σ H, t' D σ H → t D σ H) : PS X st t' := ⟨fun pins s σ H D I q => h.run pins s σ H D I (i D σ H q)⟩
theorem pss_imp {st : List Stmt} {t t' : TS} (h : PSs X st t) (i : ∀ D σ H, t' D σ H → t D σ H) : PSs X st t' := ⟨fun pins s σ H D I q => h.run pins s σ H D I (i D σ H q)⟩
theorem walk_ok (K : Cok X M C sc n Wx cf) {k : Ik} {its : List E} {tg' iter : Expr} (h : walkB C sc k its iter = true) : PI X tg' iter (tI X M Wx (evalEs M.W cf M.cx its) k) ∧ isSet iter = false := by
  simp only [walkB, Bool.and_eq_true, Bool.not_eq_true'] at h
  refine ⟨?_, h.1⟩
  obtain ⟨_, h8⟩ := h
  cases k <;> simp only [Bool.false_eq_true, Bool.and_eq_true, decide_eq_true_eq] at h8
  · cases sEs its h8.1 K with
    | cons q1 q2 => cases q2; exact pi_seq K q1.1
  · split at h8
    · rename_i p a pos
      simp only [Bool.and_eq_true, decide_eq_true_eq] at h8
      obtain ⟨⟨rfl, h9⟩, h10⟩ := h8
      have := sEs its h10 K
      exact pi_rng1 K h9 (by cases this with | cons q1 q2 => exact q1.2) (pa_of this)
    · cases h8
  · split at h8
    · rename_i p a b pos
      simp only [Bool.and_eq_true, decide_eq_true_eq] at h8
      obtain ⟨⟨rfl, h9⟩, h10⟩ := h8
      have := sEs its h10 K
      exact pi_rng2 K h9 (by cases this with | cons q1 q2 => exact q1.2) (by cases this with | cons q1 q2 => cases q2 with | cons q3 q4 => exact q3.2) (pa_of this)
    · cases h8
abbrev SS (M : Mx) (X : Cx) (Wx : WX) (L : Nat) (cf : CF) (s : S) (st : Stmt) : Prop := PS X st (tS (M.g X.K) Wx (evalS M.W L cf M.cx s))
abbrev SB (M : Mx) (X : Cx) (Wx : WX) (L : Nat) (cf : CF) (s : List S) (st : List Stmt) : Prop := PSs X st (tS (M.g X.K) Wx (evalB M.W L cf M.cx s))
variable {L : Nat}
theorem ss_set (K : Cok X M C sc n Wx cf) {i : Nat} {e : E} {x : Str} {v : Expr} {p pos : Pos} (h1 : isC C.N i x = true) (h2 : locB sc x = true) (he : SE M X Wx cf e v) (hs : (!isCompr v || (apartB p v || kindB sc x .cell)) = true) : SS M X Wx L cf (.set i e) (.Assign [.Name x p] v pos) := by
  have sw : swapsWith v (some (.Name x p)) pos.line X.env = pure false := by
    cases hv : isCompr v with
    | false => exact sw_no hv _ _ _
    | true =>
      rw [hv, Bool.not_true, Bool.false_or, Bool.or_eq_true] at hs
      rcases hs with hs | hs
      · exact sw_apart hs _ _
      · have ky : X.env.kindOf x = some .cell := K.scn x .cell (by decide) (kindB_ok hs)
        cases v <;> simp only [isCompr, Bool.false_eq_true] at hv
        all_goals
          have q : (some NameKind.cell == some NameKind.local) = false := rfl
          unfold swapsWith
          simp only [ky, q, Bool.and_false, Bool.false_and]
          try rfl
  refine ps_imp (ps_set K.nd (by rw [K.N]; exact isC_ok h1) (K.loc x h2).1 he.1 sw (K.loc x h2).2) ?_
  rintro D σ H ⟨σI, h, as, sl, hi, p⟩
  simp only [evalS] at p
  obtain ⟨q1, q2, q3, sl', hi', p'⟩ := stm1 sl hi p
  refine ⟨q1, q2, q3, sl', hi', p'.imp ?_⟩
  rintro w H1 ⟨d, h1, as1, _, x1, sl1, i1, r1, p1⟩
  exact p1 as1 H1 _ Ext.refl i1 (sl1.set r1)
theorem ss_setT (K : Cok X M C sc n Wx cf) {is : List Nat} {e : E} {es : List Expr} {k : Nat} {v : Expr} {p pos : Pos} (h1 : tgB C sc (.tp is) (.Tuple es k p) = true) (he : SE M X Wx cf e v) (hs : isTupE v = false) : SS M X Wx L cf (.setT is e) (.Assign [.Tuple es k p] v pos) := by
  refine ps_imp (ps_asg he.1 (pg_tg K h1) (by cases v <;> rfl) (ss_no hs) (by rfl)) ?_
  rintro D σ H ⟨σI, h, as, sl, hi, p⟩
  simp only [evalS] at p
  obtain ⟨q1, q2, q3, sl', hi', p'⟩ := stm1 sl hi p
  refine ⟨q1, q2, q3, sl', hi', p'.imp ?_⟩
  rintro w H1 ⟨d, h1, as1, _, x1, sl1, i1, r1, p1⟩
  split at p1
  · rename_i σ1 e1
    exact ⟨σI, h1, as1, d, σ1, sl1, i1, r1, e1, fun σ2 s2 _ => p1 as1 H1 σ2 Ext.refl i1 s2⟩
  · exact p1.elim
theorem ss_put (K : Cok X M C sc n Wx cf) {o i e : E} {x y v : Expr} {p pos : Pos} (ho : SE M X Wx cf o x) (hi : SE M X Wx cf i y) (he : SE M X Wx cf e v) : SS M X Wx L cf (.put o i e) (.Assign [.Subscript x y p] v pos) := by
  refine ⟨fun pins s σ H D I h => ?_⟩
  obtain ⟨σI, h, as, sl, hh, p⟩ := h
  simp only [evalS] at p
  refine wpAny_Assign_Subscript (thn (he.1.run pins s σ H _ I (stm1 sl hh p)) fun r s1 ⟨v1, H1, I1, rv, q1⟩ => ?_) (sw_at _ _)
  obtain ⟨d1, h1, as1, _, x1, sl1, i1, r1, p1⟩ := q1
  refine thn (ho.1.run pins s1 σ H1 _ I1 (stm1 sl1 i1 p1)) fun u s2 ⟨v2, H2, I2, ru, q2⟩ => ?_
  obtain ⟨d2, h2, as2, _, x2, sl2, i2, rr2, p2⟩ := q2
  refine thn (hi.1.run pins s2 σ H2 _ I2 (stm1 sl2 i2 p2)) fun w s3 ⟨v3, H3, I3, rw', q3⟩ => ?_
  obtain ⟨d3, h3, as3, _, x3, sl3, i3, rr3, p3⟩ := q3
  split at p3
  · rename_i h4 e4
    exact putD_ok K.hu I3 ru rw' rv i3 (rr2.mono x3) rr3 ((r1.mono x2).mono x3) e4 fun H4 s4 x4 i4 I4 => ⟨σ, H4, I4, p3 as3 H4 σ x4 i4 (sl3.mono x4)⟩
  · exact p3.elim
theorem ss_fset (K : Cok X M C sc n Wx cf) (hot : C.hot = false) {o e : E} {f : String} {x v : Expr} {p pos : Pos} (ho : SE M X Wx cf o x) (he : SE M X Wx cf e v) : SS M X Wx L cf (.fset o f e) (.Assign [.Attribute x (Str.ofString f) p] v pos) := by
  refine ps_imp (ps_fld ho.1 he.1 (sw_fld _ _)) ?_
  rintro D σ H ⟨σI, h, as, sl, hh, p⟩
  simp only [evalS] at p
  obtain ⟨q1, q2, q3, sl', hi', p'⟩ := stm1 sl hh p
  refine ⟨q1, q2, q3, sl', hi', p'.imp ?_⟩
  rintro w H1 ⟨d, h1, as1, _, x1, sl1, i1, r1, p1⟩
  obtain ⟨q1, q2, q3, sl', hi', p'⟩ := stm1 sl1 i1 p1
  refine ⟨q1, q2, q3, sl', hi', p'.imp ?_⟩
  rintro w2 H2 ⟨d2, h2, as2, _, x2, sl2, i2, r2, p2⟩
  split at p2
  · rename_i h4 e4
    cases d2 with
    | ob m =>
      simp only [Rep] at r2
      obtain ⟨a, rfl, ea⟩ := r2
      simp only [fsetD] at e4
      split at e4
      · rename_i c fs e5
        split at e4
        · rename_i hc
          cases e4
          obtain ⟨Ca, dx, vs, hca, ob, hrf⟩ := i2.ob m _ a e5 ea
          simp only [Bool.and_eq_true, decide_eq_true_eq] at hc
          unfold hasF at hc
          obtain ⟨hc1, hc2⟩ := hc
          split at hc1
          · rename_i ci eci
            have cl := (K.cool hot).cls c ci eci Ca hca
            have ex := ext_set (o := HO.ins Ca dx (putF (Str.ofString f) w vs)) ea ob (fun _ => by intro z; cases z) (fun _ _ => by intro z; cases z)
            refine ⟨a, Ca, dx, vs, rfl, ob, cl.1, cl.2.1 f (by simpa using hc1), by rw [← hrf.length]; omega, ?_⟩
            refine p2 as2 _ σ ex (i2.set ea ob (fun _ => by intro z; cases z) (fun _ _ => by intro z; cases z) ⟨Ca, dx, _, hca, upd_same, RepF.put ((r1.mono x2).mono ex) (hrf.mono ex)⟩) (sl2.mono ex)
          · cases hc1
        · cases e4
      · cases e4
    | _ => simp [fsetD] at e4
  · exact p2.elim
theorem ss_expr {e : E} {v : Expr} {pos : Pos} (he : SE M X Wx cf e v) (hs : isCompr v = false) : SS M X Wx L cf (.expr e) (.Expr v pos) := by
  refine ps_imp (ps_expr he.1 (sw_no hs _ _ _)) ?_
  rintro D σ H ⟨σI, h, as, sl, hi, p⟩
  simp only [evalS] at p
  obtain ⟨q1, q2, q3, sl', hi', p'⟩ := stm1 sl hi p
  refine ⟨q1, q2, q3, sl', hi', p'.imp ?_⟩
  rintro w H1 ⟨d, h1, as1, _, x1, sl1, i1, r1, p1⟩
  exact p1 as1 H1 σ Ext.refl i1 sl1
theorem ss_ret {e : E} {v : Expr} {pos : Pos} (he : SE M X Wx cf e v) : SS M X Wx L cf (.ret e) (.Return (some v) pos) := by
  refine ps_imp (ps_ret he.1) ?_
  rintro D σ H ⟨σI, h, as, sl, hi, p⟩
  simp only [evalS] at p
  obtain ⟨q1, q2, q3, sl', hi', p'⟩ := stm1 sl hi p
  refine ⟨q1, q2, q3, sl', hi', p'.imp ?_⟩
  rintro w H1 ⟨d, h1, as1, _, x1, sl1, i1, r1, p1⟩
  exact p1 as1 H1 w Ext.refl i1 r1
theorem ss_if {c : E} {a b : List S} {t : Expr} {x y : List Stmt} {pos : Pos} (hc : SE M X Wx cf c t) (ha : SB M X Wx L cf a x) (hb : SB M X Wx L cf b y) : SS M X Wx L cf (.ife c a b) (.If t x y pos) := by
  refine ps_imp (ps_if hc.2 ha hb) ?_
  rintro D σ H ⟨σI, h, as, sl, hi, p⟩
  simp only [evalS] at p
  rw [R.stm_bind] at p
  obtain ⟨q1, q2, q3, sl', hi', p'⟩ := stmT (ev := evalE M.W cf M.cx c) sl hi p
  refine ⟨q1, q2, q3, sl', hi', p'.imp ?_⟩
  rintro w H1 ⟨h1, as1, x1, sl1, i1, p1⟩
  cases w with
  | true => exact ⟨σI, h1, as1, sl1, i1, p1⟩
  | false => exact ⟨σI, h1, as1, sl1, i1, p1⟩
theorem ss_whl (K : Cok X M C sc n Wx cf) {c : E} {b : List S} {t : Expr} {x : List Stmt} {pos : Pos} (hc : SE M X Wx cf c t) (hb : SB M X Wx L cf b x) : SS M X Wx L cf (.whl c b) (.While t x [] pos) := by
  refine ps_imp (ps_while K.pas hc.2 hb) ?_
  rintro D σ H ⟨σI, h, as, sl, hi, p⟩
  simp only [evalS] at p
  refine ⟨fun m σ' H' => ∃ σI h as, SL (M.g X.K) σI as H' σ' ∧ HI (M.g X.K) h as H' ∧ postS (M.g X.K) Wx as H' (whileI (fun σ h => (evalE M.W cf M.cx c σ h).bind fun x h => truthR x h) (evalB M.W L cf M.cx b) m σI h) D, ⟨L, σI, h, as, sl, hi, p⟩, ?_⟩
  rintro m σ' H' ⟨σI, h, as, sl, hi, p⟩
  cases m with
  | zero => exact p.elim
  | succ m =>
    simp only [whileI] at p
    obtain ⟨q1, q2, q3, sl', hi', p'⟩ := stmT (ev := evalE M.W cf M.cx c) sl hi p
    refine ⟨q1, q2, q3, sl', hi', p'.imp ?_⟩
    rintro w H1 ⟨h1, as1, x1, sl1, i1, p1⟩
    cases w with
    | false => exact p1 as1 H1 σ' Ext.refl i1 sl1
    | true =>
      simp only [if_true] at p1 ⊢
      refine ⟨_, fun σ' H' q => ⟨m, Nat.lt_succ_self m, q⟩, σI, h1, as1, sl1, i1, ?_⟩
      match e : evalB M.W L cf M.cx b σI h1 with
      | .ok (.nx σ2) h2 => rw [e] at p1; exact fun as2 H2 σ' x2 i2 s2 => ⟨σ2, h2, as2, s2, i2, p1.mono x2⟩
      | .ok (.ct σ2) h2 => rw [e] at p1; exact fun as2 H2 σ' x2 i2 s2 => ⟨σ2, h2, as2, s2, i2, p1.mono x2⟩
      | .ok (.bk σ2) h2 => rw [e] at p1; exact p1
      | .ok (.rt d) h2 => rw [e] at p1; exact p1
      | .exc c fs σ2 h2 => rw [e] at p1; exact p1
      | .no => rw [e] at p1; exact p1
end
end Rf
end

section
namespace Rf
open PySem PySem.Spec PyProof.Rows L2

section
variable {X : Cx} {M : Mx} {C : Ck} {sc : Scope} {n : Nat} {Wx : WX} {cf : CF} {L : Nat}
def unlN (X : Cx) (g : Gd) (N : L2.St → Hp → Prop) : L2.St → Hp → Prop := fun σ H => match g with
  | .lock _ _ _ => ∃ d od u, H d = some (.frz od u) ∧ (∀ o' u', X.H_0 d ≠ some (.frz o' u')) ∧ N σ (upd H d u)
  | _ => N σ H
def unlD (X : Cx) (g : Gd) (Ds : Ends) : Ends := { nx := unlN X g Ds.nx, rt := unlQ X g Ds.rt, bk := Ds.bk, ct := Ds.ct }
theorem SP.unl {pins : List (Addr × Obj)} {g : Gd} {Ds : Ends} {f : Flow} {s : Shared} (h : SP X pins (unlD X g Ds) f s) : SP X pins Ds f s := by
  cases f with
  | next =>
    obtain ⟨σ, H, I, q⟩ := h
    cases g with
    | lock n t kvs =>
      obtain ⟨d, od, w, e, nf, q⟩ := q
      exact ⟨σ, _, I.unlock e nf, q⟩
    | none => exact ⟨σ, H, I, q⟩
    | keep n mo => exact ⟨σ, H, I, q⟩
  | brk => exact h
  | cont => exact h
  | ret u =>
    obtain ⟨v, σ, H, I, r, q⟩ := h
    cases g with
    | lock n t kvs =>
      obtain ⟨d, od, w, e, nf, q⟩ := q
      exact ⟨v, σ, _, I.unlock e nf, r, q⟩
    | none => exact ⟨v, σ, H, I, r, q⟩
    | keep n mo => exact ⟨v, σ, H, I, r, q⟩
theorem un_of {g : Gd} {hc : Hs} {as as1 asc : List Addr} {H H1 Hc : Hp} (ic : HI (M.g X.K) hc asc Hc) (hs : same g hc) (x1 : Ext as H as1 H1) (xc : Ext as1 H1 asc Hc) (gd : GdOk X g as1 H) :
    ∃ Hu, HI (M.g X.K) (endG g hc) asc Hu ∧ Ext as H asc Hu ∧ (∀ b xs, Hc b = some (.tup xs) → Hu b = some (.tup xs)) ∧ (∀ (N : L2.St → Hp → Prop) σ, N σ Hu → unlN X g N σ Hc) ∧ (∀ (Q : VK) v, Q v Hu → unlQ X g Q v Hc) := by
  cases g with
  | none => exact ⟨Hc, ic, x1.trans xc, fun _ _ e => e, fun _ _ q => q, fun _ _ q => q⟩
  | keep n' mo => exact ⟨Hc, ic, x1.trans xc, fun _ _ e => e, fun _ _ q => q, fun _ _ q => q⟩
  | lock n' t kvs =>
    obtain ⟨a, ea, nf0, nf⟩ := gd
    obtain ⟨d, od, u, ed, hf, iu⟩ := ic.unlock hs
    obtain rfl : a = d := by
      have := xc.pre _ _ ea
      rw [ed] at this; exact (Option.some.inj this).symm
    exact ⟨_, iu, (x1.trans xc).unlock (List.mem_of_getElem? ed) hf nf, fun b xs e => tup_upd (fun ys q => by rw [hf] at q; cases q) e, fun N σ q => ⟨a, od, u, hf, nf0, q⟩, fun Q v q => ⟨a, od, u, hf, nf0, q⟩⟩
theorem SL.mono0 {G : Gx} {σI : Sg} {as : List Addr} {H H' : Hp} {σ : L2.St} (s : SL G σI as H σ) (ht : ∀ b xs, H b = some (.tup xs) → H' b = some (.tup xs)) : SL G σI as H' σ :=
  ⟨s.len, fun i d e => by obtain ⟨v, e1, r⟩ := s.at_ i d e; exact ⟨v, e1, r.mono0 (fun _ _ h => h) ht⟩, s.ex⟩
theorem ss_for (K : Cok X M C sc n Wx cf) (hot : C.hot = false) {tg : Tg} {k : Ik} {its : List E} {b : List S} {tg' iter : Expr} {x : List Stmt} {pos : Pos} (htg : tgB C sc tg tg' = true) (hw : walkB C sc k its iter = true) (hb : SB M X Wx L cf b x) :
    SS M X Wx L cf (.for_ tg k its b) (.For tg' iter x [] pos) := by
  refine ⟨fun pins s σ H Ds I h => ?_⟩
  obtain ⟨σI, h, as, sl, hi, p⟩ := h
  simp only [evalS] at p
  rw [R.stm_bind] at p
  obtain ⟨hpi, hset⟩ := walk_ok (tg' := tg') K hw
  have hfold : ∀ x, foldedSetIterable iter X.env x = pure x := by
    intro x
    cases iter <;> first | rfl | (simp [isSet] at hset)
  have rule := ps_for (pos := pos) K.pas (K.cool hot).calm hpi (pg_tg K htg) hb hfold
  cases e0 : ((evalEs M.W cf M.cx its σI h).bind fun xs h => ofO (itemsI M.W.cons k xs h) h) with
  | no => rw [e0] at p; exact p.elim
  | exc c fs h1 =>
    rw [e0] at p
    refine rule.run pins s σ H Ds I ⟨σI, h, as, sl, hi, ?_⟩
    rw [e0]
    exact fun Cc dx vs as' H' x i k1 k2 k3 => p Cc dx vs as' H' σ x i k1 k2 k3 (sl.mono x)
  | ok ig h0 =>
    rw [e0] at p
    obtain ⟨items, g, hg⟩ := ig
    simp only [R.stm_ok] at p
    refine thn (rule.run pins s σ H (unlD X g Ds) I ⟨σI, h, as, sl, hi, ?_⟩) fun f s' q => SP.unl q
    rw [e0]
    rintro J as1 H1 x1 ⟨i1, w1⟩ gd
    simp only at i1 w1 gd
    generalize hturn : (fun (d : D) (σ : Sg) (h : Hs) => match bindT tg d σ with | some σ => evalB M.W L cf M.cx b σ h | none => RS.no) = turn at p
    refine ⟨fun i m σ' Hc => m = items.length - i ∧ i ≤ items.length ∧ ∃ σc hc asc, Ext as1 H1 asc Hc ∧ HI (M.g X.K) hc asc Hc ∧ SL (M.g X.K) σc asc Hc σ' ∧ postS (M.g X.K) Wx as H (forI g turn (items.drop i) σc hc) Ds,
      ⟨items.length, by simp, Nat.zero_le _, σI, hg, as1, Ext.refl, i1, sl.mono x1, p⟩, ?_⟩
    rintro i m σ' Hc ⟨rfl, hile, σc, hc, asc, xc, ic, slc, pc⟩
    by_cases hlt : i < items.length
    · have hdrop : items.drop i = items[i] :: items.drop (i + 1) := List.drop_eq_getElem_cons hlt
      rw [hdrop] at pc
      simp only [forI] at pc
      by_cases hs : same g hc
      · rw [if_pos hs] at pc
        obtain ⟨go, yl⟩ := (w1 i hc asc Hc xc ic hs).2 items[i] (by simp [hlt])
        refine .inr ⟨go, fun σ4 H4 => items.length - (i + 1) = items.length - (i + 1) ∧ i + 1 ≤ items.length ∧ ∃ σc hc asc, Ext as1 H1 asc H4 ∧ HI (M.g X.K) hc asc H4 ∧ SL (M.g X.K) σc asc H4 σ4 ∧ postS (M.g X.K) Wx as H (forI g turn (items.drop (i + 1)) σc hc) Ds,
          fun σ4 H4 q => ⟨items.length - (i + 1), by omega, q⟩, fun y H' yy => ?_⟩
        obtain ⟨as', x', i', rx⟩ := yl y H' yy
        have et : turn items[i] σc hc = match bindT tg items[i] σc with | some σ => evalB M.W L cf M.cx b σ hc | none => RS.no := by rw [← hturn]
        cases eb : bindT tg items[i] σc with
        | none => rw [et, eb] at pc; exact pc.elim
        | some σ1 =>
          refine ⟨σc, hc, as', items[i], σ1, slc.mono x', i', rx, eb, fun σ2 sl2 _ => ⟨σ1, hc, as', sl2, i', ?_⟩⟩
          rw [eb] at et
          simp only at et
          rw [et] at pc
          match e : evalB M.W L cf M.cx b σ1 hc with
          | .ok (.nx σ3) h3 =>
            rw [e] at pc
            exact fun as3 H3 σ4 x3 i3 s3 => ⟨rfl, by omega, σ3, h3, as3, xc.trans (x'.trans x3), i3, s3, pc⟩
          | .ok (.ct σ3) h3 =>
            rw [e] at pc
            exact fun as3 H3 σ4 x3 i3 s3 => ⟨rfl, by omega, σ3, h3, as3, xc.trans (x'.trans x3), i3, s3, pc⟩
          | .ok (.bk σ3) h3 =>
            rw [e] at pc
            intro as3 H3 σ4 x3 i3 s3
            simp only at pc
            by_cases hs3 : same g h3
            · rw [if_pos hs3] at pc
              obtain ⟨Hu, iu, xu, ht, hn, _⟩ := un_of i3 hs3 x1 (xc.trans (x'.trans x3)) gd
              exact hn _ _ (pc as3 Hu σ4 xu iu (s3.mono0 ht))
            · rw [if_neg hs3] at pc; exact pc.elim
          | .ok (.rt d) h3 =>
            rw [e] at pc
            intro as3 H3 v x3 i3 r3
            simp only at pc
            by_cases hs3 : same g h3
            · rw [if_pos hs3] at pc
              obtain ⟨Hu, iu, xu, ht, _, hq⟩ := un_of i3 hs3 x1 (xc.trans (x'.trans x3)) gd
              exact hq _ _ (pc as3 Hu v xu iu (r3.mono0 (fun _ _ h => h) ht))
            · rw [if_neg hs3] at pc; exact pc.elim
          | .exc c fs σ3 h3 =>
            rw [e] at pc
            exact pc.mono (x1.trans (xc.trans x'))
          | .no => rw [e] at pc; exact pc.elim
      · rw [if_neg hs] at pc; exact pc.elim
    · have hie : i = items.length := by omega
      subst hie
      rw [List.drop_length] at pc
      simp only [forI] at pc
      by_cases hs : same g hc
      · rw [if_pos hs] at pc
        refine .inl ⟨(w1 _ hc asc Hc xc ic hs).1 (Nat.le_refl _), ?_⟩
        obtain ⟨Hu, iu, xu, ht, hn, _⟩ := un_of ic hs x1 xc gd
        exact hn _ _ (pc asc Hu σ' xu iu (slc.mono0 ht))
      · rw [if_neg hs] at pc; exact pc.elim
def rAug (M : Mx) (K : PySem.W.Frag) (Wx : WX) (σ : L2.St) (o : Op) : V → V → Hp → VK → Prop := fun x y H Q => ∃ dx dy h as, HI (M.g K) h as H ∧ Rep (M.g K) as H dx x ∧ Rep (M.g K) as H dy y ∧ post (M.g K) Wx (Rep (M.g K)) as H σ (augD o dx dy h) Q
theorem aug_ok {o : Op} {op : Operator} (ho : opB o op = true) (σ : L2.St) : PIp X op (rAug M X.K Wx σ o) := by
  rintro pins s σ' H x y v u Q I rx ry ⟨dx, dy, h, as, hi, r1, r2, p⟩
  unfold augD at p
  split at p
  · simp only [Rep] at r1 r2
    subst r1 r2
    cases op <;> simp only [opB, Bool.false_eq_true] at ho
    exact ip_add pins s σ' H _ _ v u Q I rx ry ⟨_, _, rfl, rfl, p _ as H Ext.refl hi (by simp only [Rep])⟩
  · simp only [Rep] at r1 r2
    subst r1 r2
    cases op <;> simp only [opB, Bool.false_eq_true] at ho
    exact ip_sub pins s σ' H _ _ v u Q I rx ry ⟨_, _, rfl, rfl, p _ as H Ext.refl hi (by simp only [Rep])⟩
  · rename_i z z'
    simp only [Rep] at r1 r2
    subst r1 r2
    cases op <;> simp only [opB, Bool.false_eq_true] at ho
    split at p
    · rename_i hz
      refine in_addS pins s σ' H _ _ v u Q I rx ry ⟨_, _, rfl, rfl, by simpa [st, Str.length] using hz, ?_⟩
      refine p _ as H Ext.refl hi ?_
      simp only [Rep]
      show V.str ⟨(st z).cps ++ (st z').cps⟩ = _
      simp [st]
    · exact p.elim
  · exact p.elim
theorem ss_aug (K : Cok X M C sc n Wx cf) {i : Nat} {o : Op} {e : E} {x : Str} {op : Operator} {v : Expr} {p pos : Pos} (h1 : isC C.N i x = true) (h2 : locB sc x = true) (h3 : opB o op = true) (he : SE M X Wx cf e v) :
    SS M X Wx L cf (.aug i o e) (.AugAssign (.Name x p) op v pos) := by
  refine ⟨fun pins s σ H Ds I h => ?_⟩
  refine (ps_aug K.nd (by rw [K.N]; exact isC_ok h1) (K.loc x h2).1 he.1 (aug_ok (M := M) (Wx := Wx) h3 σ) (K.loc x h2).2).run pins s σ H Ds I ?_
  obtain ⟨σI, h, as, sl, hi, p⟩ := h
  simp only [evalS] at p
  split at p
  · rename_i d ed
    obtain ⟨w, e1, r⟩ := sl.at_ i d ed
    refine ⟨w, e1, ?_⟩
    obtain ⟨q1, q2, q3, sl', hi', p'⟩ := stm1 sl hi p
    refine ⟨q1, q2, q3, sl', hi', p'.imp ?_⟩
    rintro y H1 ⟨d1, h1, as1, _, x1, sl1, i1, r1, p1⟩
    refine ⟨d, d1, h1, as1, i1, r.mono x1, r1, (p1.stm (Rl := Rep (M.g X.K)) sl1).imp ?_⟩
    rintro z H2 ⟨d2, h2, as2, _, x2, sl2, i2, r2, p2⟩
    exact p2 as2 H2 _ Ext.refl i2 (sl2.set r2)
  · exact p.elim
theorem ss_faug (K : Cok X M C sc n Wx cf) (hot : C.hot = false) {f : String} {o : Op} {a e : E} {op : Operator} {x v : Expr} {p pos : Pos} (h3 : opB o op = true) (ha : SE M X Wx cf a x) (he : SE M X Wx cf e v) :
    SS M X Wx L cf (.faug a f o e) (.AugAssign (.Attribute x (Str.ofString f) p) op v pos) := by
  refine ⟨fun pins s σ H Ds I h => ?_⟩
  refine (ps_fldaug ha.1 he.1 (aug_ok (M := M) (Wx := Wx) h3 σ)).run pins s σ H Ds I ?_
  obtain ⟨σI, h, as, sl, hi, p⟩ := h
  simp only [evalS] at p
  obtain ⟨q1, q2, q3, sl', hi', p'⟩ := stm1 sl hi p
  refine ⟨q1, q2, q3, sl', hi', p'.imp ?_⟩
  rintro y H1 ⟨d1, h1, as1, _, x1, sl1, i1, r1, p1⟩
  cases d1 with
  | ob m =>
    simp only [Rep] at r1
    obtain ⟨ad, rfl, ea⟩ := r1
    simp only [isIns] at p1
    cases em : h1[m]? with
    | none => rw [em] at p1; exact p1.elim
    | some mo =>
      rw [em] at p1
      cases mo with
      | ins c fs =>
        simp only at p1
        split at p1
        · rename_i hf
          split at p1
          · rename_i dy ey
            obtain ⟨Ca, dx, vs, hca, ob, hrf⟩ := i1.ob m _ ad em ea
            have hf' := hf
            unfold hasF at hf'
            split at hf'
            · rename_i ci eci
              have cl := (K.cool hot).cls c ci eci Ca hca
              obtain ⟨vy, evy, rvy⟩ : ∃ vy, vs.lookup (Str.ofString f) = some vy ∧ Rep (M.g X.K) as1 H1 dy vy := by
                rcases hrf.lookup f with ⟨q, _⟩ | ⟨d9, v9, q1, q2, q3⟩
                · rw [ey] at q; cases q
                · rw [ey] at q1; cases q1; exact ⟨v9, q2, q3⟩
              refine ⟨ad, Ca, dx, vs, vy, rfl, ob, cl.1, cl.2.1 f (by simpa using hf'), evy, ?_⟩
              obtain ⟨q1, q2, q3, sl', hi', p'⟩ := stm1 sl1 i1 p1
              refine ⟨q1, q2, q3, sl', hi', p'.imp ?_⟩
              rintro y2 H2 ⟨d2, h2, as2, _, x2, sl2, i2, r2, p2⟩
              refine ⟨dy, d2, h2, as2, i2, rvy.mono x2, r2, (p2.stm (Rl := Rep (M.g X.K)) sl2).imp ?_⟩
              rintro z H3 ⟨d3, h3, as3, _, x3, sl3, i3, r3, p3⟩
              have ea3 := x3.pre _ _ (x2.pre _ _ ea)
              cases em3 : h3[m]? with
              | none => rw [em3] at p3; exact p3.elim
              | some mo3 =>
                rw [em3] at p3
                cases mo3 with
                | ins c' fs' =>
                  simp only [fsetD, em3] at p3
                  split at p3
                  · rename_i q5 q6 q7 q8
                    split at p3
                    · rename_i hcc
                      simp only [Option.some.injEq, Prod.mk.injEq] at q7
                      obtain ⟨rfl, rfl⟩ := q7
                      subst hcc
                      split at q8
                      · rename_i hl
                        cases q8
                        obtain ⟨Ca', dx', vs', hca', ob', hrf'⟩ := i3.ob m _ ad em3 ea3
                        have : Ca' = Ca := by
                          rw [hca] at hca'; exact (Option.some.inj hca').symm
                        subst this
                        simp only [Bool.and_eq_true, decide_eq_true_eq] at hl
                        refine ⟨dx', vs', ob', by rw [← hrf'.length]; omega, ?_⟩
                        have ex := ext_set (o := HO.ins Ca' dx' (putF (Str.ofString f) z vs')) ea3 ob' (fun _ => by intro z; cases z) (fun _ _ => by intro z; cases z)
                        exact p3 as3 _ σ ex (i3.set ea3 ob' (fun _ => by intro z; cases z) (fun _ _ => by intro z; cases z) ⟨Ca', dx', _, hca', upd_same, RepF.put (r3.mono ex) (hrf'.mono ex)⟩) (sl3.mono ex)
                      · cases q8
                    · exact p3.elim
                  · exact p3.elim
                | _ => exact p3.elim
            · cases hf'
          · exact p1.elim
        · exact p1.elim
      | _ => exact p1.elim
  | _ => exact p1.elim
end
end Rf
end

section
set_option maxHeartbeats 2000000
namespace Rf
open PySem PySem.Spec PyProof.Rows L2

/-! ## raise -/
theorem repF_zip {G : Gx} {as : List Addr} {H : Hp} : ∀ {fl : List String} {ds : List D} {vs : List V}, Reps G as H ds vs → RepF G as H (fl.zip ds) ((fl.map Str.ofString).zip vs)
  | [], _, _, _ => by simp; exact .nil
  | f :: fl, [], _, h => by simp only [Reps] at h; subst h; simp; exact .nil
  | f :: fl, d :: ds, _, h => by
    obtain ⟨v, vs, rfl, h1, h2⟩ := h.cons_inv
    simp only [List.zip_cons_cons, List.map_cons]
    exact .cons ⟨rfl, h1⟩ (repF_zip h2)
theorem paired_app {α β : Type} {R : α → β → Prop} : ∀ {a : List α} {b : List β} {c : List α} {d : List β}, Paired R a b → Paired R c d → Paired R (a ++ c) (b ++ d)
  | _, _, _, _, .nil, k => k
  | _, _, _, _, .cons h t, k => .cons h (paired_app t k)
theorem paired_rev {α β : Type} {R : α → β → Prop} : ∀ {a : List α} {b : List β}, Paired R a b → Paired R a.reverse b.reverse
  | _, _, .nil => .nil
  | _, _, .cons h t => by
    rw [List.reverse_cons, List.reverse_cons]
    exact paired_app (paired_rev t) (.cons h .nil)
section
variable {X : Cx} {M : Mx} {C : Ck} {sc : Scope} {n : Nat} {Wx : WX} {cf : CF} {L : Nat}
theorem postS.stms {G : Gx} {as : List Addr} {H : Hp} {σ : L2.St} {Ds : Ends} {ev : Sg → Hs → R (List D)} {f : List D → Hs → RS} {σI : Sg} {h : Hs} (sl : SL G σI as H σ) (hi : HI G h as H) (p : postS G Wx as H ((ev σI h).stm σI f) Ds) :
    tEs G Wx ev σ H fun x H1 => ∃ d h1 as1, ev σI h = .ok d h1 ∧ Ext as H as1 H1 ∧ SL G σI as1 H1 σ ∧ HI G h1 as1 H1 ∧ Reps G as1 H1 d x ∧ postS G Wx as1 H1 (f d h1) Ds :=
  ⟨σI, h, as, sl, hi, p.stm (Rl := Reps G) sl⟩
theorem ss_raise (K : Cok X M C sc n Wx cf) (hot : C.hot = false) {c : Nat} {es : List E} {x : Str} {y : Expr} {xs : List Expr} {p pos pos2 : Pos} (h0 : c ∈ C.xr) (h1 : isC C.cnm c x = true) (h2 : glB sc x = true) (h3 : okN x = true) (hx : chkEs C es sc (y :: xs) = true) (hes : SL2 M X Wx cf es (y :: xs)) :
    SS M X Wx L cf (.raise c es) (.Raise (some (.Call (.Name x p) (y :: xs) [] pos)) none pos2) := by
  obtain ⟨Ca, fI, fd, ps, e1, m1, T, iC, tI, F1, hb⟩ := (K.cool hot).exs c x h0 (isC_ok h1)
  have st : isStar y = false ∧ ∃ e es', es = e :: es' ∧ chkEs C es' sc xs = true := by
    cases es with
    | nil => simp [chkEs] at hx
    | cons e es' => simp only [chkEs, Bool.and_eq_true, Bool.not_eq_true'] at hx; exact ⟨hx.1.2, e, es', rfl, hx.2⟩
  obtain ⟨s1, e, es', rfl, s2⟩ := st
  refine ps_imp (ps_raise (K.cool hot).calm K.tk (pmk_oex (X := X) (dvs := []) (ds := []) T iC tI F1 ((K.cool hot).room.mono (by omega)) hb .nil pass0 (K.gl x h2) m1 (pa_of hes) (okN_ok h3).1 (star_one s1 _ _) (chkEs_star s2))) ?_
  rintro D σ H ⟨σI, h, as, sl, hi, p⟩
  simp only [evalS] at p
  obtain ⟨q1, q2, q3, sl', hi', p'⟩ := postS.stms sl hi p
  refine ⟨q1, q2, q3, sl', hi', p'.imp ?_⟩
  rintro vs H1 ⟨ds, h1', as1, _, x1, sl1, i1, r1, p1⟩
  split at p1
  · rename_i hc
    refine ⟨by rw [← r1.length]; omega, fun a ha => ⟨a, vs, by rw [List.append_nil], by rw [← r1.length]; exact hc.2.1, upd_same, fun d H2 hd ne g1 g2 g3 => ⟨rfl, d, _, g1, g2, ?_, ?_⟩⟩⟩
    · rw [upd_ne ne] at hd; exact hd
    · have hd' : H1 d = none := by rw [upd_ne ne] at hd; exact hd
      have eH : upd (del H2 a) d (.xd ((M.W.exf c).map Str.ofString |>.zip vs).reverse) = upd H1 d (.xd ((M.W.exf c).map Str.ofString |>.zip vs).reverse) := by
        funext b
        by_cases hb : b = d
        · rw [hb, upd_same, upd_same]
        · rw [upd_ne hb, upd_ne hb]
          by_cases hb2 : b = a
          · rw [hb2, del_same, ha]
          · rw [del_ne hb2, g3 b hb2 hb, upd_ne hb2]
      rw [eH]
      refine p1 Ca d _ as1 _ σ (ext_tup hd') (i1.other hd') e1 upd_same ?_ (sl1.mono (ext_tup hd'))
      exact (RepF.mono (ext_tup hd') (paired_rev (repF_zip r1)))
  · exact p1.elim
end
/-! ## name = [..] on one line -/
section
variable {X : Cx} {M : Mx} {C : Ck} {sc : Scope} {n : Nat} {Wx : WX} {cf : CF} {L : Nat}
theorem chkE_lc {e : E} {elt : Expr} {gc : Comprehension} {scope : Scope} {pos : Pos} (h : chkE C e sc (.ListComp elt [gc] scope pos) = true) : (∃ own tg k its cd el, e = .lc own tg k its cd el) ∨ ∃ a, e = .back a := by
  cases e <;> first | (simp [chkE] at h; done) | exact .inl ⟨_, _, _, _, _, _, rfl⟩ | exact .inr ⟨_, rfl⟩
theorem ss_here (K : Cok X M C sc n Wx cf) {i : Nat} {e : E} {y : Str} {v : Expr} {py pos : Pos} (h1 : isC C.N i y = true) (h2 : locB sc y = true) (he : chkE C e sc v = true) (hs : hereB C sc y py v = true) : SS M X Wx L cf (.set i e) (.Assign [.Name y py] v pos) := by
  unfold hereB at hs
  split at hs
  · rename_i elt gc scope lp
    simp only [Bool.and_eq_true, Bool.not_eq_true'] at hs
    obtain ⟨⟨⟨hot, hk⟩, hl⟩, hany⟩ := hs
    rcases chkE_lc he with ⟨own, tg, k, its, cd, el, rfl⟩ | ⟨a, rfl⟩
    · obtain ⟨tg', iter, ifs, asy⟩ := gc
      simp only [chkE, Bool.and_eq_true, Bool.not_eq_true', decide_eq_true_eq, List.all_eq_true] at he
      obtain ⟨⟨⟨⟨⟨⟨⟨⟨⟨_, rfl⟩, g1⟩, g2⟩, g3⟩, g4⟩, g5⟩, g6⟩, g7⟩, g8⟩ := he
      have hpi : PI X tg' iter (tI X M Wx (evalEs M.W cf M.cx its) k) := by
        refine (walk_ok (C := C) (sc := sc) (n := n) (tg' := tg') K ?_).1
        unfold walkB
        simp only [g7, Bool.not_false, Bool.true_and]
        exact g8
      have hy : X.env.scope.names.lookup y = some .local := K.scn y .local (by decide) (kindB_ok hk)
      have hfold : ∀ x, foldedSetIterable iter X.env x = pure x := by
        intro x
        cases iter <;> first | rfl | (simp [isSet] at g7)
      have hvs : (ownP C own).map (·.2) = own := by
        unfold ownP; rw [List.map_map]
        exact (List.map_congr_left fun _ _ => rfl).trans (List.map_id _)
      refine ⟨fun pins s σ H D I q => ?_⟩
      obtain ⟨σI, h, as, sl, hi, p⟩ := q
      simp only [evalS] at p
      obtain ⟨q1, q2, q3, sl', hi', p'⟩ := stm1 sl hi p
      have q' : tE (M.g X.K) Wx (evalE M.W cf M.cx (.lc own tg k its cd el)) σ H (fun x H1 => gName i x σ H1 D.nx) := by
        refine ⟨q1, q2, q3, sl', hi', p'.imp ?_⟩
        rintro w H1 ⟨d, h1, as1, _, x1, sl1, i1, r1, p1⟩
        exact p1 as1 H1 _ Ext.refl i1 (sl1.set r1)
      obtain ⟨g, q'⟩ := lc_tr K hot g3 q'
      have rule := ps_setLc (X := X) (i := i) (y := y) (py := py) (elt := elt) (tg := tg') (iter := iter) (ifs := ifs) (scope := scope) (pos := lp) (spos := pos) (g := gT (M.g X.K) tg) (tt := tC (M.g X.K) (fun _ _ _ _ => False) (fun σ h => (evalEs M.W cf M.cx cd σ h).bind cdB)) (te := tE (M.g X.K) (fun _ _ _ _ => False) (evalE M.W cf M.cx el))
        (K.cool hot).calm K.nd (by rw [K.N]; exact isC_ok h1) hy (sw_true I.ok.kind hy hl hany) hpi (blk_ok K g1)
        (fun s H Cc cl fp => pg_tg (K.blk hot s H scope Cc cl fp) g2)
        (fun s H Cc cl fp => by
          have K' := K.blk hot s H scope Cc cl fp
          refine pts_of ?_
          cases sEs cd g4 K' with
          | nil => rfl
          | cons q1 q2 =>
            cases q2 with
            | nil => exact ⟨_, rfl, q1.1⟩
            | cons _ _ => simp at g5)
        (fun s H Cc cl fp => (sE el g6 (K.blk hot s H scope Cc cl fp)).1.1) hfold
      rw [hvs] at rule
      refine thn (rule.run pins s σ H (unlD X g D) I ?_) fun f s' q => SP.unl q
      have e : ∀ x H1, unlQ X g (fun x H1 => gName i x σ H1 D.nx) x H1 = gName i x σ H1 (unlD X g D).nx := by
        intro x H1
        cases g <;> rfl
      have e' : unlQ X g (fun x H1 => gName i x σ H1 D.nx) = fun x H1 => gName i x σ H1 (unlD X g D).nx := by
        funext x H1; exact e x H1
      rw [e'] at q'
      exact q'
    · unfold chkE at he
      simp [backOf] at he
  · cases hs
end
/-! ## an exception at hand -/
mutual
theorem rep_x {G : Gx} {as : List Addr} {H : Hp} {xd : Option (Addr × List (String × D))} {ex : Option (Nat × Addr)} : ∀ {d : D} {v : V}, Rep { G with xd := xd, ex := ex } as H d v ↔ Rep G as H d v
  | .non, _ => Iff.rfl
  | .bl _, _ => Iff.rfl
  | .int _, _ => Iff.rfl
  | .str _, _ => Iff.rfl
  | .tup ds, v => by
    simp only [Rep]
    constructor
    · rintro ⟨a, vs, e, h1, h2⟩; exact ⟨a, vs, e, h1, reps_x.mp h2⟩
    · rintro ⟨a, vs, e, h1, h2⟩; exact ⟨a, vs, e, h1, reps_x.mpr h2⟩
  | .ob _, _ => Iff.rfl
  | .fn _, _ => Iff.rfl
  | .con _, _ => Iff.rfl
theorem reps_x {G : Gx} {as : List Addr} {H : Hp} {xd : Option (Addr × List (String × D))} {ex : Option (Nat × Addr)} : ∀ {ds : List D} {vs : List V}, Reps { G with xd := xd, ex := ex } as H ds vs ↔ Reps G as H ds vs
  | [], _ => Iff.rfl
  | d :: ds, vs => by
    simp only [Reps]
    constructor
    · rintro ⟨v, r, e, h1, h2⟩; exact ⟨v, r, e, rep_x.mp h1, reps_x.mp h2⟩
    · rintro ⟨v, r, e, h1, h2⟩; exact ⟨v, r, e, rep_x.mpr h1, reps_x.mpr h2⟩
end
section
variable {G : Gx} {as : List Addr} {H : Hp} {xd : Option (Addr × List (String × D))} {ex : Option (Nat × Addr)}
theorem repF_x {fs : List (String × D)} {vs : List (Str × V)} : RepF { G with xd := xd, ex := ex } as H fs vs ↔ RepF G as H fs vs :=
  ⟨fun h => Paired.mapP h fun _ _ z => ⟨z.1, rep_x.mp z.2⟩, fun h => Paired.mapP h fun _ _ z => ⟨z.1, rep_x.mpr z.2⟩⟩
theorem obR_x {a : Addr} : ∀ {mo : MO}, ObR { G with xd := xd, ex := ex } as H a mo ↔ ObR G as H a mo
  | .lst xs => ⟨fun ⟨vs, h1, h2⟩ => ⟨vs, h1, reps_x.mp h2⟩, fun ⟨vs, h1, h2⟩ => ⟨vs, h1, reps_x.mpr h2⟩⟩
  | .dic lk false kvs => ⟨fun ⟨vs, h1, h2⟩ => ⟨vs, h1, Paired.mapP h2 fun _ _ z => ⟨z.1, rep_x.mp z.2⟩⟩, fun ⟨vs, h1, h2⟩ => ⟨vs, h1, Paired.mapP h2 fun _ _ z => ⟨z.1, rep_x.mpr z.2⟩⟩⟩
  | .dic lk true kvs => ⟨fun ⟨vs, h1, h2⟩ => ⟨vs, h1, Paired.mapP h2 fun _ _ z => ⟨z.1, rep_x.mp z.2⟩⟩, fun ⟨vs, h1, h2⟩ => ⟨vs, h1, Paired.mapP h2 fun _ _ z => ⟨z.1, rep_x.mpr z.2⟩⟩⟩
  | .ins c fs => ⟨fun ⟨C, dx, vs, h0, h1, h2⟩ => ⟨C, dx, vs, h0, h1, repF_x.mp h2⟩, fun ⟨C, dx, vs, h0, h1, h2⟩ => ⟨C, dx, vs, h0, h1, repF_x.mpr h2⟩⟩
  | .scr ns => Iff.rfl
theorem HI.on {h : Hs} (hi : HI G h as H) (hx : XdR { G with xd := xd, ex := ex } as H) : HI { G with xd := xd, ex := ex } h as H := ⟨hx, hi.len, hi.nd, fun n mo a e1 e2 => obR_x.mpr (hi.ob n mo a e1 e2)⟩
theorem HI.off {h : Hs} (hn : G.xd = none) (hi : HI { G with xd := xd, ex := ex } h as H) : HI G h as H := ⟨fun _ _ q => (by rw [hn] at q; cases q), hi.len, hi.nd, fun n mo a e1 e2 => obR_x.mp (hi.ob n mo a e1 e2)⟩
/-- no dict of an exception is one of ours -/
theorem HI.noxd {h : Hs} (hi : HI G h as H) {dx : Addr} {vs : List (Str × V)} (e : H dx = some (.xd vs)) : dx ∉ as := fun hm => by
  obtain ⟨n, hn⟩ := List.getElem?_of_mem hm
  have hl : n < h.length := by rw [← hi.len]; exact (List.getElem?_eq_some_iff.mp hn).1
  have ob := hi.ob n h[n] dx (by simp [hl]) hn
  cases hmo : h[n] with
  | lst xs => rw [hmo] at ob; obtain ⟨_, q, _⟩ := ob; rw [e] at q; cases q
  | dic lk t kvs =>
    rw [hmo] at ob
    have : ∀ {o : HO}, (∀ vs, o ≠ .xd vs) → lkd lk H dx o → False := by
      intro o ho q
      unfold lkd at q
      split at q
      · obtain ⟨od, q⟩ := q; rw [e] at q; cases q
      · rw [e] at q; exact ho _ (Option.some.inj q).symm
    cases t with
    | false => obtain ⟨_, q, _⟩ := ob; exact this (fun _ z => by cases z) q
    | true => obtain ⟨_, q, _⟩ := ob; exact this (fun _ z => by cases z) q
  | ins c fs => rw [hmo] at ob; obtain ⟨_, _, _, _, q, _⟩ := ob; rw [e] at q; cases q
  | scr ns => rw [hmo] at ob; obtain ⟨_, q⟩ := ob; rw [e] at q; cases q
theorem SL.on {σI : Sg} {σ : L2.St} (s : SL G σI as H σ) {o : Option Nat} {z : Addr} (he : ex = o.map fun i => (i, z)) : SL { G with xd := xd, ex := ex } (offI o σI) as H (slotO o z σ) := by
  subst he
  cases o with
  | none => exact ⟨s.len, fun j d e => by obtain ⟨v, a, b⟩ := s.at_ j d e; exact ⟨v, a, rep_x.mpr b⟩, fun j a e => by simp at e⟩
  | some i =>
    refine ⟨by simp [offI, slotO, s.len], fun j d e => ?_, fun j a e q => ?_⟩
    · simp only [offI, slotO] at e ⊢
      by_cases hj : j = i
      · subst hj
        have hl : j < σI.length := by have := (List.getElem?_eq_some_iff.mp e).1; simpa using this
        rw [List.getElem?_set_self hl] at e; cases e
      · rw [List.getElem?_set_ne (Ne.symm hj)] at e ⊢
        obtain ⟨v, a, b⟩ := s.at_ j d e
        exact ⟨v, a, rep_x.mpr b⟩
    · simp only [Option.map_some, Option.some.injEq, Prod.mk.injEq] at e
      obtain ⟨rfl, rfl⟩ := e
      simp only [offI, slotO] at q ⊢
      have hl : i < σI.length := by have := (List.getElem?_eq_some_iff.mp q).1; simpa using this
      rw [List.getElem?_set_self (by rw [← s.len]; exact hl)]
theorem SL.off {σI : Sg} {σ : L2.St} {o : Option Nat} (hn : G.ex = none) (s : SL { G with xd := xd, ex := ex } σI as H σ) : SL G (offI o σI) as H (match o with | none => σ | some i => σ.set i none) := by
  cases o with
  | none => exact ⟨s.len, fun j d e => by obtain ⟨v, a, b⟩ := s.at_ j d e; exact ⟨v, a, rep_x.mp b⟩, fun j a e => by rw [hn] at e; cases e⟩
  | some i =>
    refine ⟨by simp [offI, s.len], fun j d e => ?_, fun j a e q => by rw [hn] at e; cases e⟩
    simp only [offI] at e ⊢
    by_cases hj : j = i
    · subst hj
      have hl : j < σI.length := by have := (List.getElem?_eq_some_iff.mp e).1; simpa using this
      rw [List.getElem?_set_self hl] at e; cases e
    · rw [List.getElem?_set_ne (Ne.symm hj)] at e ⊢
      obtain ⟨v, a, b⟩ := s.at_ j d e
      exact ⟨v, a, rep_x.mp b⟩
/-- out of a clause -/
theorem postS.offs {Wx Wx' : WX} {r : RS} {o : Option Nat} {Ds : Ends} (h1 : G.xd = none) (h2 : G.ex = none) (p : postS G Wx as H (r.offs o) Ds) : postS { G with xd := xd, ex := ex } Wx' as H r (endsO o Ds) := by
  match r with
  | .ok (.nx σ) h => cases o <;> exact fun as' H' σ' x hi sl => p as' H' _ x (hi.off h1) (sl.off h2)
  | .ok (.bk σ) h => cases o <;> exact fun as' H' σ' x hi sl => p as' H' _ x (hi.off h1) (sl.off h2)
  | .ok (.ct σ) h => cases o <;> exact fun as' H' σ' x hi sl => p as' H' _ x (hi.off h1) (sl.off h2)
  | .ok (.rt d) h => cases o <;> exact fun as' H' v x hi rv => p as' H' v x (hi.off h1) (rep_x.mp rv)
  | .exc c fs σ h => exact p.elim
  | .no => exact p.elim
end
def Mx.at (M : Mx) (c : Nat) (fs : List (String × D)) (dx z : Addr) (o : Option Nat) : Mx := { M with cx := some (c, fs), xd := some (dx, fs), ex := o.map fun i => (i, z) }
section
variable {X : Cx} {M : Mx} {C : Ck} {sc : Scope} {n : Nat} {Wx : WX} {cf : CF} {L : Nat}
theorem Cok.suite (K : Cok X M C sc n Wx cf) (hot : C.hot = false) {c : Nat} {fs : List (String × D)} {dx z Ca : Addr} {oz : Obj} {ps : List (Addr × Obj)} (o : Option Nat) (hx : 0 < (M.W.exf c).length) (hc : M.ca c = some Ca)
    (hz : Zc (.ref Ca) (some dx) oz) (hf : ∃ vs, oz.data = .fields vs) : Cok (X.suite z ((z, oz) :: ps)) (M.at c fs dx z o) { C with hot := true, exn := o } sc n (fun _ _ _ _ => False) cf := by
  refine ⟨fun q => (by cases q), ?_, K.N, K.nd, K.vis, K.loc, K.gl, K.scn, K.scf, K.hu, K.gd, takes0, PassesOwn.never, ?_, K.scr, K.glb, K.bl, K.gs, K.gi⟩
  · intro i x f p pos _ ho hi hv hn
    simp only at ho
    subst ho
    obtain ⟨a1, a2, _⟩ := okN_ok hn
    obtain ⟨T, hno⟩ := (K.cool hot).exm.xf c Ca hx hc
    by_cases hff : f ∈ M.W.exf c
    · refine pe_imp (pe_xf (X := X) (a := z) (oe := oz) (pn := ps) T (hno f hff) hz hf (pe_var (X := X.suite z ((z, oz) :: ps)) (pos := p) (by rw [show (X.suite z ((z, oz) :: ps)).N = C.N from K.N]; exact hi) hv a1 a2)) ?_
      rintro σ H Q ⟨σI, h, as, sl, hi', q⟩
      simp only [evalE, Mx.at] at q
      cases e : σI[i]? with
      | none => rw [e] at q; exact q.elim
      | some w =>
        rw [e] at q
        cases w with
        | some _ => exact q.elim
        | none =>
          simp only [hff, if_true] at q
          have e1 := sl.ex i z rfl e
          obtain ⟨_, vs, g1, g2⟩ := hi'.xd dx fs rfl
          refine ⟨.ref z, e1, rfl, rfl, dx, vs, ?_⟩
          rcases g2.lookup f with ⟨g3, _⟩ | ⟨d, v, g3, g4, g5⟩
          · rw [g3] at q; exact q.elim
          · rw [g3] at q
            exact ⟨v, rfl, g1, g4, q v as H Ext.refl hi' g5⟩
    · refine ⟨fun pins s σ H Q I q => ?_⟩
      obtain ⟨σI, h, as, sl, hi', q⟩ := q
      simp only [evalE, Mx.at] at q
      cases e : σI[i]? with
      | none => rw [e] at q; exact q.elim
      | some w =>
        rw [e] at q
        cases w with
        | some _ => exact q.elim
        | none => simp only [hff, if_false] at q; exact q.elim
  · intro g ys a e1 e2
    obtain ⟨vs, h1, h2⟩ := K.con g ys a e1 e2
    exact ⟨vs, fun H as => ⟨(h1 H as).1, reps_x.mpr (h1 H as).2⟩, h2⟩
end
end Rf
end

section
set_option maxHeartbeats 2000000
namespace Rf
open PySem PySem.Spec PyProof.Rows L2

def FrOk (X : Cx) : Prop := X.stack = X.env :: X.outer ∧ X.env.frame = some X.env.locals
def hnB (C : Ck) (sc : Scope) (o : Option Nat) (y : Option Str) : Bool := match o, y with | none, none => true | some i, some y => isC C.N i y && kindB sc y .local | _, _ => false
theorem chkH_inv {C : Ck} {sc : Scope} {k : Nat} {o : Option Nat} {b : List S} {r : List (Nat × Option Nat × List S)} {hd : ExceptHandler} {hds : List ExceptHandler} (h : chkH C sc ((k, o, b) :: r) (hd :: hds) = true) :
    ∃ x p y st sts p2, hd = .ExceptHandler (some (.Name x p)) y (st :: sts) p2 ∧ k ∈ C.xc ∧ isC C.cnm k x = true ∧ glB sc x = true ∧ okN x = true ∧ hnB C sc o y = true ∧ chkB { C with hot := true, exn := o } sc b (st :: sts) = true ∧ chkH C sc r hds = true := by
  unfold chkH at h
  split at h <;> first | (cases h; done) | (rename_i e1 e2; cases e1; done) | skip
  rename_i e1 e2
  cases e1; cases e2
  simp only [Bool.and_eq_true, decide_eq_true_eq] at h
  obtain ⟨⟨⟨⟨⟨⟨h1, h2⟩, h3⟩, h4⟩, h5⟩, h6⟩, h7⟩ := h
  exact ⟨_, _, _, _, _, _, rfl, h1, h2, h3, h4, h5, h6, h7⟩
theorem chkS_raise {C : Ck} {sc : Scope} {c : Nat} {es : List E} {st : Stmt} (h : chkS C sc (.raise c es) st = true) :
    ∃ x p y xs pos pos2, st = .Raise (some (.Call (.Name x p) (y :: xs) [] pos)) none pos2 ∧ C.hot = false ∧ c ∈ C.xr ∧ isC C.cnm c x = true ∧ glB sc x = true ∧ okN x = true ∧ chkEs C es sc (y :: xs) = true := by
  unfold chkS at h
  split at h <;> first | (cases h; done) | (rename_i e1; cases e1; done) | skip
  rename_i e1
  cases e1
  simp only [Bool.and_eq_true, decide_eq_true_eq, Bool.not_eq_true'] at h
  obtain ⟨⟨⟨⟨⟨hot, h1⟩, h2⟩, h3⟩, h4⟩, h5⟩ := h
  exact ⟨_, _, _, _, _, _, rfl, hot, h1, h2, h3, h4, h5⟩
theorem chkS_try {C : Ck} {sc : Scope} {b : List S} {hs : List (Nat × Option Nat × List S)} {st : Stmt} (h : chkS C sc (.try_ b hs) st = true) :
    ∃ x hd hds pos, st = .Try x (hd :: hds) [] [] pos ∧ C.hot = false ∧ chkB C sc b x = true ∧ chkH C sc hs (hd :: hds) = true := by
  unfold chkS at h
  split at h <;> first | (cases h; done) | (rename_i e1; cases e1; done) | skip
  rename_i x hds pos e1
  cases e1
  simp only [Bool.and_eq_true, Bool.not_eq_true', List.isEmpty_eq_false_iff] at h
  obtain ⟨⟨⟨hot, h1⟩, h2⟩, h3⟩ := h
  cases hds with
  | nil => exact absurd rfl h2
  | cons hd hds => exact ⟨_, _, _, _, rfl, hot, h1, h3⟩
section
variable {X : Cx} {M : Mx} {C : Ck} {sc : Scope} {n : Nat} {Wx : WX} {cf : CF} {L : Nat}
theorem tS_next {σ : L2.St} {H : Hp} {Ds : Ends} (h : tS (M.g X.K) Wx (fun σ h => .ok (.nx σ) h) Ds σ H) : tNext Ds σ H := by
  obtain ⟨σI, h, as, sl, hi, p⟩ := h
  exact p as H σ Ext.refl hi sl
/-- a clause's suite -/
def tsOf (M : Mx) (K : PySem.W.Frag) (L : Nat) (cf : CF) (o : Option Nat) (b : List S) : Addr → Value → Option Addr → TS := fun z cl dx D σ G =>
  ∃ c fs d Ca, cl = .ref Ca ∧ dx = some d ∧ M.ca c = some Ca ∧ 0 < (M.W.exf c).length ∧ tS ((M.at c fs d z o).g K) (fun _ _ _ _ => False) (evalB M.W L cf (some (c, fs)) b) D σ G
def lOf (M : Mx) (K : PySem.W.Frag) (L : Nat) (cf : CF) : List (Nat × Option Nat × List S) → List Cls1
  | [] => []
  | (k, o, b) :: r => (.ref ((M.ca k).getD 0), o, tsOf M K L cf o b) :: lOf M K L cf r
theorem mix_of (K : Cok X M C sc n Wx cf) (hot : C.hot = false) {c : Nat} {fs : List (String × D)} {Ca dx : Addr} {vs : List (Str × V)} {D : Ends} (hx : 0 < (M.W.exf c).length) (hc : M.ca c = some Ca) :
    ∀ (hs : List (Nat × Option Nat × List S)) {hds : List ExceptHandler} {σI : Sg} {h : Hs} {as : List Addr} {H : Hp} {σ : L2.St}, chkH C sc hs hds = true → SL (M.g X.K) σI as H σ → HI (M.g X.K) h as H → H dx = some (.xd vs) → RepF (M.g X.K) as H fs vs →
      postS (M.g X.K) Wx as H (evalH M.W L cf c fs hs σI h) D → wMix X.K Wx D (lOf M X.K L cf hs) (.ref Ca) (some dx) σ H
  | [], _, σI, h, as, H, σ, _, sl, hi, e, rf, p => by
    simp only [evalH] at p
    exact p Ca dx vs as H σ Ext.refl hi hc e rf sl
  | (k, o, b) :: r, [], _, _, _, _, _, q, _, _, _, _, _ => by simp [chkH] at q
  | (k, o, b) :: r, hd :: hds, σI, h, as, H, σ, q, sl, hi, e, rf, p => by
    obtain ⟨x, p1, y, st, sts, p2, rfl, hk, ex, _, _, _, _, hr⟩ := chkH_inv q
    replace ex := isC_ok ex
    have k0 := K.cool hot
    obtain ⟨Ka, ek, _⟩ := k0.exm.nm k x hk ex
    have em := k0.exm.exm c k Ca Ka hx hk hc ek
    simp only [evalH] at p
    refine ⟨M.W.isa c k, by simp only [ek, Option.getD_some]; exact em, fun ht z hz => ?_, fun ht => ?_⟩
    · rw [ht, if_pos rfl] at p
      refine ⟨c, fs, dx, Ca, rfl, rfl, hc, hx, offI o σI, h, as, sl.on rfl, hi.on ?_, p.offs k0.nxd k0.nex⟩
      intro d' fs' eq
      have eq' : some (dx, fs) = some (d', fs') := eq
      cases eq'
      exact ⟨hi.noxd e, vs, e, repF_x.mpr rf⟩
    · rw [ht, if_neg (by simp)] at p
      exact mix_of K hot hx hc r hr sl hi e rf p
theorem kind_loc {y : Str} (K : Cok X M C sc n Wx cf) (h : kindB sc y .local = true) : X.env.kindOf y = some .local := K.scn y .local (by decide) (kindB_ok h)
mutual
theorem sS : ∀ (s : S) {X : Cx} {M : Mx} {C : Ck} {Wx : WX} {st : Stmt}, chkS C sc s st = true → Cok X M C sc n Wx cf → FrOk X → SS M X Wx L cf s st
  | .set i e, X, M, C, Wx, st, h, K, fr => by
    cases st <;> try (simp only [chkS, Bool.false_eq_true] at h; done)
    rename_i ts v pos
    match ts with
    | [] => simp [chkS] at h
    | t :: _ :: _ => cases t <;> simp [chkS] at h
    | [t] =>
      cases t <;> simp only [chkS, Bool.false_eq_true, Bool.and_eq_true] at h
      have h2 := h.2
      rw [Bool.or_eq_true] at h2
      rcases h2 with hb | hb
      · exact ss_set K h.1.1.1 h.1.1.2 (sE e h.1.2 K).1 hb
      · exact ss_here K h.1.1.1 h.1.1.2 h.1.2 hb
  | .setT is e, X, M, C, Wx, st, h, K, fr => by
    cases st <;> try (simp only [chkS, Bool.false_eq_true] at h; done)
    rename_i ts v pos
    match ts with
    | [] => simp [chkS] at h
    | t :: _ :: _ => cases t <;> simp [chkS] at h
    | [t] =>
      cases t <;> simp only [chkS, Bool.false_eq_true, Bool.and_eq_true, Bool.not_eq_true'] at h
      exact ss_setT K h.1.1 (sE e h.1.2 K).1 h.2
  | .put o i e, X, M, C, Wx, st, h, K, fr => by
    cases st <;> try (simp only [chkS, Bool.false_eq_true] at h; done)
    rename_i ts v pos
    match ts with
    | [] => simp [chkS] at h
    | t :: _ :: _ => cases t <;> simp [chkS] at h
    | [t] =>
      cases t <;> simp only [chkS, Bool.false_eq_true, Bool.and_eq_true] at h
      exact ss_put K (sE o h.1.1 K).1 (sE i h.1.2 K).1 (sE e h.2 K).1
  | .fset o f e, X, M, C, Wx, st, h, K, fr => by
    cases st <;> try (simp only [chkS, Bool.false_eq_true] at h; done)
    rename_i ts v pos
    match ts with
    | [] => simp [chkS] at h
    | t :: _ :: _ => cases t <;> simp [chkS] at h
    | [t] =>
      cases t <;> simp only [chkS, Bool.false_eq_true, Bool.and_eq_true, decide_eq_true_eq, Bool.not_eq_true'] at h
      obtain ⟨⟨⟨hot, h1⟩, rfl⟩, h2⟩ := h
      exact ss_fset K hot (sE o h1 K).1 (sE e h2 K).1
  | .aug i o e, X, M, C, Wx, st, h, K, fr => by
    cases st <;> try (simp only [chkS, Bool.false_eq_true] at h; done)
    rename_i t op v pos
    cases t <;> simp only [chkS, Bool.false_eq_true, Bool.and_eq_true] at h
    exact ss_aug K h.1.1.1 h.1.1.2 h.1.2 (sE e h.2 K).1
  | .faug a f o e, X, M, C, Wx, st, h, K, fr => by
    cases st <;> try (simp only [chkS, Bool.false_eq_true] at h; done)
    rename_i t op v pos
    cases t <;> simp only [chkS, Bool.false_eq_true, Bool.and_eq_true, decide_eq_true_eq, Bool.not_eq_true'] at h
    obtain ⟨⟨⟨⟨hot, h1⟩, rfl⟩, h2⟩, h3⟩ := h
    exact ss_faug K hot h2 (sE a h1 K).1 (sE e h3 K).1
  | .expr e, X, M, C, Wx, st, h, K, fr => by
    cases st <;> simp only [chkS, Bool.false_eq_true, Bool.and_eq_true, Bool.not_eq_true'] at h
    exact ss_expr (sE e h.1 K).1 h.2
  | .ret e, X, M, C, Wx, st, h, K, fr => by
    cases st <;> try (simp only [chkS, Bool.false_eq_true] at h; done)
    rename_i v pos
    cases v <;> simp only [chkS, Bool.false_eq_true] at h
    exact ss_ret (sE e h K).1
  | .retN, X, M, C, Wx, st, h, K, fr => by
    cases st <;> try (simp only [chkS, Bool.false_eq_true] at h; done)
    rename_i v pos
    cases v <;> simp only [chkS, Bool.false_eq_true] at h
    refine ps_imp ps_retN ?_
    rintro D σ H ⟨σI, h, as, sl, hi, p⟩
    exact p as H .non Ext.refl hi (by simp only [Rep])
  | .ife c a b, X, M, C, Wx, st, h, K, fr => by
    cases st <;> simp only [chkS, Bool.false_eq_true, Bool.and_eq_true] at h
    exact ss_if (sE c h.1.1 K).1 (sB a h.1.2 K fr) (sB b h.2 K fr)
  | .whl c b, X, M, C, Wx, st, h, K, fr => by
    cases st <;> try (simp only [chkS, Bool.false_eq_true] at h; done)
    rename_i t x els pos
    cases els <;> simp only [chkS, Bool.false_eq_true, Bool.and_eq_true] at h
    exact ss_whl K (sE c h.1 K).1 (sB b h.2 K fr)
  | .for_ tg k its b, X, M, C, Wx, st, h, K, fr => by
    cases st <;> try (simp only [chkS, Bool.false_eq_true] at h; done)
    rename_i t x els bd pos
    cases bd <;> simp only [chkS, Bool.false_eq_true, Bool.and_eq_true, Bool.not_eq_true'] at h
    exact ss_for K h.1.1.1 h.1.1.2 h.1.2 (sB b h.2 K fr)
  | .raise c es, X, M, C, Wx, st, h, K, fr => by
    obtain ⟨x, p, y, xs, pos, pos2, rfl, hot, h1, h2, h3, h4, h5⟩ := chkS_raise h
    exact ss_raise K hot h1 h2 h3 h4 h5 (sEs es h5 K)
  | .try_ b hs, X, M, C, Wx, st, h, K, fr => by
    obtain ⟨x, e₀, es, pos, rfl, hot, h1, h3⟩ := chkS_try h
    · have hx := sH hs h3 K hot fr
      refine ps_imp (try_mix (tb := fun W => tS (M.g X.K) W (evalB M.W L cf M.cx b)) fr.1 fr.2 K.nd K.tk (fun W ps xe tk pas => ?_) hx) ?_
      · have K' : Cok (X.tr ps xe) M C sc n W cf := by
          have k := K.cool hot
          exact ⟨fun _ => ⟨k.calm, k.room, k.nex, k.nxd, k.ncx, k.fns, k.cls, k.mks, k.exs, k.exm⟩, fun _ _ _ _ _ q => (by rw [hot] at q; cases q), K.N, K.nd, K.vis, K.loc, K.gl, K.scn, K.scf, K.hu, K.gd, tk, pas, K.con, K.scr, K.glb, K.bl, K.gs, K.gi⟩
        exact sB b h1 K' fr
      · rintro D σ H ⟨σI, h, as, sl, hi, p⟩
        refine ⟨σI, h, as, sl, hi, ?_⟩
        simp only [evalS] at p
        match e : evalB M.W L cf M.cx b σI h with
        | .ok (.nx σ1) h1 => rw [e] at p; exact p
        | .ok (.bk σ1) h1 => rw [e] at p; exact p
        | .ok (.ct σ1) h1 => rw [e] at p; exact p
        | .ok (.rt d) h1 => rw [e] at p; exact p
        | .no => rw [e] at p; exact p.elim
        | .exc c fs σ1 h1 =>
          rw [e] at p
          simp only at p
          split at p
          · rename_i hx
            exact fun Ca dx vs as' H' σ' x' hi' hc g1 g2 sl' => mix_of K hot hx hc hs h3 sl' hi' g1 g2 (p.mono x')
          · exact p.elim
  | .brk, X, M, C, Wx, st, h, K, fr => by
    cases st <;> simp only [chkS, Bool.false_eq_true] at h
    refine ps_imp ps_break ?_
    rintro D σ H ⟨σI, h, as, sl, hi, p⟩
    exact p as H σ Ext.refl hi sl
  | .cnt, X, M, C, Wx, st, h, K, fr => by
    cases st <;> simp only [chkS, Bool.false_eq_true] at h
    refine ps_imp ps_continue ?_
    rintro D σ H ⟨σI, h, as, sl, hi, p⟩
    exact p as H σ Ext.refl hi sl
  | .stuck, X, M, C, Wx, st, h, K, fr => by
    refine ⟨fun pins s σ H D I q => ?_⟩
    obtain ⟨σI, h, as, sl, hi, p⟩ := q
    exact p.elim
  | .pass, X, M, C, Wx, st, h, K, fr => by
    have e : ∀ Ds σ H, tS (M.g X.K) Wx (evalS M.W L cf M.cx S.pass) Ds σ H → tNext Ds σ H := by
      rintro Ds σ H ⟨σI, h, as, sl, hi, p⟩
      exact p as H σ Ext.refl hi sl
    cases st <;> try (simp only [chkS, Bool.false_eq_true] at h; done)
    · rename_i v pos
      cases v <;> try (simp only [chkS, isStr, Bool.false_eq_true] at h; done)
      rename_i c k p
      cases c <;> simp only [chkS, isStr, Bool.false_eq_true] at h
      exact ps_imp ps_doc e
    · exact ps_imp ps_pass e
theorem sB : ∀ (ss : List S) {X : Cx} {M : Mx} {C : Ck} {Wx : WX} {sts : List Stmt}, chkB C sc ss sts = true → Cok X M C sc n Wx cf → FrOk X → SB M X Wx L cf ss sts
  | [], X, M, C, Wx, [], _, K, fr => by
    refine pss_imp pss_nil ?_
    rintro Ds σ H ⟨σI, h, as, sl, hi, p⟩
    exact p as H σ Ext.refl hi sl
  | s :: ss, X, M, C, Wx, st :: sts, h, K, fr => by
    simp only [chkB, Bool.and_eq_true] at h
    refine pss_imp (pss_cons (sS s h.1 K fr) (sB ss h.2 K fr)) ?_
    rintro Ds σ H ⟨σI, h, as, sl, hi, p⟩
    refine ⟨σI, h, as, sl, hi, ?_⟩
    simp only [evalB] at p
    match e : evalS M.W L cf M.cx s σI h with
    | .ok (.nx σ1) h1 => rw [e] at p; exact fun as' H' σ' x i s' => ⟨σ1, h1, as', s', i, p.mono x⟩
    | .ok (.bk σ1) h1 => rw [e] at p; exact p
    | .ok (.ct σ1) h1 => rw [e] at p; exact p
    | .ok (.rt d) h1 => rw [e] at p; exact p
    | .exc c fs σ1 h1 => rw [e] at p; exact p
    | .no => rw [e] at p; exact p
  | [], X, M, C, Wx, _ :: _, h, _, _ => by simp [chkB] at h
  | _ :: _, X, M, C, Wx, [], h, _, _ => by simp [chkB] at h
theorem sH : ∀ (hs : List (Nat × Option Nat × List S)) {X : Cx} {M : Mx} {C : Ck} {Wx : WX} {hds : List ExceptHandler}, chkH C sc hs hds = true → Cok X M C sc n Wx cf → C.hot = false → FrOk X → HdsX X hds (lOf M X.K L cf hs)
  | [], X, M, C, Wx, [], _, K, hot, fr => .nil
  | [], X, M, C, Wx, _ :: _, h, _, _, _ => by simp [chkH] at h
  | _ :: _, X, M, C, Wx, [], h, _, _, _ => by simp [chkH] at h
  | (k, o, b) :: r, X, M, C, Wx, hd :: hds, h, K, hot, fr => by
    obtain ⟨x, p1, y, st, sts, p2, rfl, h1, h2, h3, h4, h5, h6, h7⟩ := chkH_inv h
    · obtain ⟨Ka, ek, mk⟩ := (K.cool hot).exm.nm k _ h1 (isC_ok h2)
      refine .cons ⟨K.gl _ h3, (okN_ok h4).1, .inl (by rw [ek]; exact mk)⟩ ?_ ?_ (sH r h7 K hot fr)
      · cases o with
        | none => cases y with
          | none => trivial
          | some y => simp [hnB] at h5
        | some i => cases y with
          | none => simp [hnB] at h5
          | some y =>
            simp only [hnB, Bool.and_eq_true] at h5
            exact ⟨by rw [K.N]; exact isC_ok h5.1, kind_loc K h5.2⟩
      · intro z oz cl dx ps hz hf
        refine ⟨fun pins s σ H D I q => ?_⟩
        obtain ⟨c, fs, d, Ca, rfl, rfl, hc, hx, q⟩ := q
        exact (sB b h6 (K.suite hot (ps := ps) o hx hc hz hf) fr).run pins s σ H D I q
end
end
end Rf
end

section
namespace Rf
open PySem PySem.Spec PyProof.Rows L2

/-! ## a def of the text keeps what its term says -/
/-- the def at a, as the text has it -/
structure FnF (K : PySem.W.Frag) (C : Ck) (fi : FI) (a : Addr) where
  x : Str
  qual : Str
  params : Arguments
  body : List Stmt
  scope : Scope
  N : List Str
  ps : List Str
  fd : FuncData
  F : FunD K x qual params body scope [] [] a fd
  S : FnScope N ps scope
  B : Binds K fd ps []
  np : ps.length = fi.np
  ns : N.length = fi.ns
  ck : chkB { C with N := N } scope fi.body body = true
structure Facts (P : Program) (w : World) (K : PySem.W.Frag) (mg : Str → Option Value) (base : Heap) (M : Mx) (C : Ck) : Prop where
  fn : ∀ f a, M.fa f = some a → PySem.W.keepIn K (.ref a) = true ∧ ∃ fi, M.W.fns[f]? = some fi ∧ Nonempty (FnF K C fi a)
  nm : ∀ f x, C.fnm[f]? = some x → ∃ a, mg x = some (.ref a) ∧ M.fa f = some a
  con : ConOk M K
  scr : ScrOk M K
  glb : ∀ g x, C.gnm[g]? = some x → ∃ a, mg x = some (.ref a) ∧ M.ga g = some a
  cls : ∀ c ci, M.W.cls[c]? = some ci → ∀ Ca, M.ca c = some Ca → Cls K Ca ∧ (∀ f, f ∈ ci.flds → NoAttr K Ca (Str.ofString f)) ∧
    (∀ m f, ci.meths.lookup m = some f → ∃ a fi, Meth K Ca (Str.ofString m) a ∧ M.W.fns[f]? = some fi ∧ Nonempty (FnF K C fi a))
  mks : ∀ c x, c ∈ C.nw → C.cnm[c]? = some x → ∃ ci f Ca a fi, M.W.cls[c]? = some ci ∧ ci.ini = some f ∧ M.ca c = some Ca ∧ mg x = some (.ref Ca) ∧ Mk K Ca a ∧ M.W.fns[f]? = some fi ∧ Nonempty (FnF K C fi a)
  exs : ExcsOk P w K mg base M C
  exm : ExmOk K mg M C
  hot : C.hot = false
  nex : M.ex = none
  nxd : M.xd = none
  ncx : M.cx = none
  bl : ∀ x ∈ bltNames, mg x = none
  gs : ∀ (g : Nat) (x : Str) (s : List Char), C.snm[g]? = some (x, s) → ∃ t, mg x = some (.str (st s) t)
  gi : ∀ (g : Nat) (x : Str) (i : Int), C.inm[g]? = some (x, i) → ∃ t, mg x = some (.int i t)
section
variable {P : Program} {w : World} {K : PySem.W.Frag} {mg : Str → Option Value} {base : Heap} {M : Mx} {C : Ck} {L : Nat}
theorem sl_start {G : Gx} (hx : G.ex = none) {N : List Str} {ds : List D} {vs : List V} {as : List Addr} {H : Hp} (r : Reps G as H ds vs) : SL G (start N.length ds) as H (L2.start N vs) := by
  refine ⟨?_, fun i d e => ?_, fun _ _ q => by rw [hx] at q; cases q⟩
  · unfold start L2.start
    rw [List.length_append, List.length_append, List.length_map, List.length_map, List.length_replicate, List.length_replicate, r.length]
  · unfold start at e
    by_cases hi : i < ds.length
    · rw [List.getElem?_append_left (by simpa using hi), List.getElem?_map] at e
      cases ed : ds[i]? with
      | none => rw [ed] at e; cases e
      | some d' =>
        rw [ed] at e; cases e
        have : ∀ {ds : List D} {vs : List V} {i : Nat}, Reps G as H ds vs → ds[i]? = some d → ∃ v, vs[i]? = some v ∧ Rep G as H d v := by
          intro ds
          induction ds with
          | nil => intro vs i _ e; simp at e
          | cons d0 ds ih =>
            intro vs i r e
            obtain ⟨v, rr, rfl, r1, r2⟩ := r.cons_inv
            cases i with
            | zero => simp at e; subst e; exact ⟨v, rfl, r1⟩
            | succ i => simpa using ih r2 (by simpa using e)
        obtain ⟨v, e1, e2⟩ := this r ed
        have hv : i < vs.length := (List.getElem?_eq_some_iff.mp e1).1
        refine ⟨v, ?_, e2⟩
        unfold L2.start
        rw [List.getElem?_append_left (by simpa using hv), List.getElem?_map, e1]; rfl
    · rw [List.getElem?_append_right (by simpa using hi), List.getElem?_replicate] at e
      split at e <;> cases e
theorem callF_np {W : Wd} {n f : Nat} {ds : List D} {h : Hs} {fi : FI} (e : W.fns[f]? = some fi) (hn : callF W L n f ds h ≠ .no) : ds.length = fi.np := by
  cases n with
  | zero => exact absurd rfl hn
  | succ n =>
    simp only [callF, e] at hn
    by_cases hl : ds.length = fi.np
    · exact hl
    · rw [if_neg hl] at hn; exact absurd rfl hn
theorem fnOk (Fx : Facts P w K mg base M C) : ∀ (n f : Nat) (a : Addr) (fi : FI), M.W.fns[f]? = some fi → ∀ F : FnF K C fi a, FnG P w K mg base (L2.CX P w) (2 * n + 1) a F.fd F.ps (spI M K (callF M.W L n) fi.np f) := by
  intro n
  induction n with
  | zero =>
    intro f a fi ef F
    refine ⟨fun vs H Q E h => ?_, fun A outer s H args us vs Q E _ hr e0 hb r hsp => ?_⟩
    · rw [h.1, F.np]
    · obtain ⟨_, ds, h, as, hi, rs, p⟩ := hsp
      exact p.elim
  | succ n ih =>
    have ihB : ∀ (f : Nat) (a : Addr) (fi : FI), M.W.fns[f]? = some fi → FnF K C fi a → FnB P w K mg base M n (callF M.W L n) a f := fun f a fi ef F => ⟨F.fd, F.ps, fi.np, F.B, F.np, ih f a fi ef F, fun ds h hn => callF_np ef hn⟩
    intro f a fi ef F
    refine fn_G F.F F.S (fun vs H Q E h => by rw [h.1, F.np]) (fun cdv A outer s H vs Q E hgd hr hsp => ?_)
    obtain ⟨hl, ds, h, as, hi, rs, p⟩ := hsp
    refine ⟨tS (M.g K) (fun c d _ H => E c d H) (evalB M.W L (callF M.W L n) M.cx fi.body), ?_, ?_⟩
    · have Kk : Cok (cxOf (L2.CX P w) P w K mg base F.N F.qual F.scope a cdv A outer s H E) M { C with N := F.N } F.scope n (fun c d _ H => E c d H) (callF M.W L n) := by
        refine ⟨fun _ => ⟨rfl, hr, Fx.nex, Fx.nxd, Fx.ncx, ⟨Fx.nm, fun f a e => ?_⟩, fun c ci e Ca eC => ?_, fun c x h1 h2 => ?_, Fx.exs, ⟨Fx.exm.nm, Fx.exm.exm, Fx.exm.xf⟩⟩, fun _ _ _ _ _ q => (by rw [show ({ C with N := F.N } : Ck).hot = C.hot from rfl, Fx.hot] at q; cases q), rfl, F.S.nd, fun x hx => visB_cases hx, fun x hx => ⟨locB_cases hx, .inl rfl⟩, fun x hx => kindB_ok hx, fun x k _ e => e, fun x e => .inl e, (by have := hr.un; show (A.deeper (envOfC F.qual F.scope s.heap.objs.size a cdv)).units + 200 < cLine; omega), hgd, takes_of rfl rfl rfl rfl, passes_of rfl, Fx.con, Fx.scr, Fx.glb, Fx.bl, Fx.gs, Fx.gi⟩
        · obtain ⟨kp, fi', ef', ⟨F'⟩⟩ := Fx.fn f a e
          exact ⟨kp, ihB f a fi' ef' F'⟩
        · obtain ⟨c1, c2, c3⟩ := Fx.cls c ci e Ca eC
          refine ⟨c1, c2, fun m f em => ?_⟩
          obtain ⟨a', fi', hm, ef', ⟨F'⟩⟩ := c3 m f em
          exact ⟨a', hm, ihB f a' fi' ef' F'⟩
        · obtain ⟨ci, f', Ca, a', fi', e1, e2, e3, e4, mk, ef', ⟨F'⟩⟩ := Fx.mks c x h1 h2
          exact ⟨ci, f', Ca, a', e1, e2, e3, e4, mk, ihB f' a' fi' ef' F'⟩
      exact sB fi.body F.ck Kk ⟨rfl, rfl⟩
    · have hdl : ds.length = fi.np := by rw [rs.length, hl]
      simp only [callF, ef, if_pos hdl] at p
      rw [← Fx.ncx] at p
      refine ⟨start fi.ns ds, h, as, ?_, hi, ?_⟩
      · rw [← F.ns]; exact sl_start Fx.nex rs
      · match e : evalB M.W L (callF M.W L n) M.cx fi.body (start fi.ns ds) h with
        | .ok (.nx σ1) h1 => rw [e] at p; exact fun as' H' σ' x i _ => p .non as' H' x i (by simp only [Rep])
        | .ok (.bk σ1) h1 => rw [e] at p; exact p.elim
        | .ok (.ct σ1) h1 => rw [e] at p; exact p.elim
        | .ok (.rt d) h1 => rw [e] at p; exact fun as' H' v x i r => p v as' H' x i r
        | .exc c fs σ1 h1 => rw [e] at p; exact fun Cc dx vs as' H' σ' x i k1 k2 k3 _ => p Cc dx vs as' H' x i k1 k2 k3
        | .no => rw [e] at p; exact p.elim
end
end Rf
end

section
namespace Rf
open PySem PySem.Spec PyProof.Rows L2

/-! ## the law -/
def cbody : Stmt → List Stmt
  | .ClassDef (body := b) .. => b
  | _ => []
theorem FnG.cx0 {P : Program} {w : World} {K : PySem.W.Frag} {mg : Str → Option Value} {base : Heap} {k : Nat} {f : Addr} {fd : FuncData} {ps : List Str} {sp : Sp} (F : FnG P w K mg base (L2.CX P w) k f fd ps sp) :
    FnG P w K mg base L2.CX0 k f fd ps (fun vs H Q _ => sp vs H Q fun _ _ _ => False) :=
  ⟨fun vs H Q E h => F.ln vs H Q _ h, fun A outer s H args us vs Q E g hr e0 hb r hsp => codeAny_mono (F.go A outer s H args us vs Q _ g hr e0 hb r hsp) fun r s' h => by
    cases r with
    | error e =>
      obtain ⟨_, _, _, _, _, _, _, _, _, _, _, _, hE⟩ := h
      exact hE.elim
    | ok fl => cases fl <;> exact h⟩
/-- what the head tells of a def, and its term -/
structure DefOk (C : Ck) (d : He.DefD) (fi : FI) (x : Str × Option Str) (N ps : List Str) : Prop where
  at_ : d.at_ = x
  dfl : d.dfl = []
  kwd : d.kwd = []
  S : FnScope N ps d.scope
  hb : (∀ (kV doc pm : Value) (an : Option Addr) (cdv ct : Value) (us : List Value), us.length = ps.length → bindArgs (PySem.W.fnOf d.name d.qual d.params d.body d.scope .none kV doc pm an cdv ct) ⟨us, []⟩ = pure (ps.zip us))
  np : ps.length = fi.np
  ns : N.length = fi.ns
  ck : chkB { C with N := N } d.scope fi.body d.body = true
structure ClsI where
  nm : Str
  ci : CI
/-- a class of exceptions: its fields, where its __init__ stands among the defs -/
structure ExI where
  nm : Str
  flds : List String := []
  ini : Nat := 0
structure Pg where
  fns : List FI
  names : List Str
  cls : List ClsI := []
  exs : List ExI := []
  nums : List (Str × Int) := []
  nw : List Nat := []
  snm : List (Str × List Char) := []
  cons : List (Str × List D) := []
  isa : Nat → Nat → Bool := fun _ _ => false
def ClsI.fa (k : ClsI) : List He.Fa := .glo k.nm :: .cls k.nm :: k.ci.flds.map (fun f => He.Fa.noat k.nm (Str.ofString f)) ++ k.ci.meths.map (fun p => He.Fa.meth k.nm (Str.ofString p.1)) ++ (if k.ci.ini.isSome then [He.Fa.mkr k.nm] else [])
def Pg.fa0 (p : Pg) : List He.Fa := p.names.map He.Fa.glo ++ bltNames.map He.Fa.free ++ p.cls.flatMap ClsI.fa ++ p.snm.map (fun q => He.Fa.str q.1 (st q.2))
def Pg.fa (p : Pg) : List He.Fa := p.fa0 ++ p.nums.map (fun q => He.Fa.int q.1 q.2) ++ p.exs.map (fun e => He.Fa.glo e.nm) ++ p.cons.map (fun q => He.Fa.glo q.1)
def Pg.exf (p : Pg) (c : Nat) : List String := if c < p.cls.length then [] else match p.exs[c - p.cls.length]? with | some e => e.flds | none => []
def Pg.wd (p : Pg) (ns : List Int) : Wd := ⟨p.fns, p.cls.map (·.ci), p.cons.map (·.2), p.isa, ns, p.exf⟩
def Pg.xc (p : Pg) : List Nat := (List.range p.exs.length).map (p.cls.length + ·)
def Pg.ck (p : Pg) : Ck := { N := [], fnm := p.names, cnm := p.cls.map (·.nm) ++ p.exs.map (·.nm), gnm := p.cons.map (·.1), nw := p.nw, snm := p.snm, xc := p.xc, xr := p.xc.filter fun c => !(p.exf c).isEmpty, inm := p.nums }
def Pg.mx (p : Pg) (ns : List Int) (K : PySem.W.Frag) (oa : Option Addr) : Mx :=
  ⟨p.wd ns, fun f => (p.names[f]?).map (He.ga K), fun c => ((p.cls.map (·.nm) ++ p.exs.map (·.nm))[c]?).map (He.ga K), fun g => if g < p.cons.length then (p.cons[g]?).map (fun q => He.ga K q.1) else if g = p.cons.length then oa else none, none, none, none⟩
/-- the constants' objects -/
def Pg.ConsOk0 (p : Pg) (K : PySem.W.Frag) (mg : Str → Option Value) : Prop := ∀ q ∈ p.cons, mg q.1 = some (.ref (He.ga K q.1)) ∧ ∃ vs : List V, (∀ H : Hp, SqT K H (He.ga K q.1) vs) ∧ (∀ (G : Gx) (as : List Addr) (H : Hp), G.K = K → Reps G as H q.2 vs) ∧ q.2.all flat = true
/-- the __init__ of an exception -/
structure ExOk (d : He.DefD) (e : ExI) (N ps : List Str) : Prop where
  at_ : d.at_ = (e.nm, some ("__init__" : Str))
  dfl : d.dfl = []
  kwd : d.kwd = []
  S : FnScope N ps d.scope
  hb : (∀ (kV doc pm : Value) (an : Option Addr) (cdv ct : Value) (us : List Value), us.length = ps.length → bindArgs (PySem.W.fnOf d.name d.qual d.params d.body d.scope .none kV doc pm an cdv ct) ⟨us, []⟩ = pure (ps.zip us))
  nn : N = ps
  ln : ps.length = e.flds.length + 1
  l9 : e.flds.length ≤ 900
  ck : chkI N d.scope 0 e.flds d.body = true
/-- every def, every method has its term -/
structure Pg.Ok (p : Pg) (defs : List He.DefD) : Prop where
  fn : ∀ (f : Nat) (x : Str), p.names[f]? = some x → ∃ (fi : FI) (d : He.DefD) (N ps : List Str), p.fns[f]? = some fi ∧ defs[f]? = some d ∧ DefOk p.ck d fi (x, none) N ps
  mt : ∀ (c : Nat) (k : ClsI), p.cls[c]? = some k → ∀ q ∈ k.ci.meths, ∃ (fi : FI) (d : He.DefD) (N ps : List Str), p.fns[q.2]? = some fi ∧ defs[q.2]? = some d ∧ DefOk p.ck d fi (k.nm, some (Str.ofString q.1)) N ps
  ini : ∀ (c : Nat) (k : ClsI), p.cls[c]? = some k → ∀ f, k.ci.ini = some f → ∃ (fi : FI) (d : He.DefD) (N ps : List Str), p.fns[f]? = some fi ∧ defs[f]? = some d ∧ DefOk p.ck d fi (k.nm, some ("__init__" : Str)) N ps
  nw : ∀ c ∈ p.nw, ∃ k f, p.cls[c]? = some k ∧ k.ci.ini = some f
  ex : ∀ e ∈ p.exs, e.flds ≠ [] → ∃ (d : He.DefD) (N ps : List Str), defs[e.ini]? = some d ∧ ExOk d e N ps
/-- constants of the module -/
def dvOf : D → He.Dv
  | .bl b => .bl b
  | .int i => .int i
  | .str s => .str (st s)
  | _ => .non
def leafD : D → Bool
  | .non => true
  | .bl _ => true
  | .int _ => true
  | .str _ => true
  | _ => false
/-- an own class over ValueError, with its own dict -/
def oexB (K : PySem.W.Frag) (C : Addr) : Bool :=
  (match K.lookup C with
    | some ⟨.type t, _, .cls cd, sl⟩ => decide (t = "type") && decide (cd.hasDel = false) && decide (cd.hasDict = true) && (match cd.mro with
      | .ref C' :: bm => decide (C' = C) && PySem.HandSPX.refsVE bm
      | _ => false) && (match sl.toList with
      | [_, _, _, _, some (.builtin nw), _] => decide (nw = "ValueError.__new__")
      | _ => false)
    | _ => false) && He.eqO (PySem.W.findIn K (.ref C) "__setattr__") (some (some (.builtin "object.__setattr__"))) && decide (PySem.W.subIn K (.ref C) (.type "BaseException") = some true) && decide (PySem.W.typeIn K (.ref C) = some (.type "type")) && PySem.W.keepIn K (.ref C)
theorem oexB_ok {K : PySem.W.Frag} {C : Addr} (q : oexB K C = true) : OexC K C := by
  simp only [oexB, Bool.and_eq_true, decide_eq_true_eq] at q
  obtain ⟨⟨⟨⟨q1, q2⟩, q3⟩, q4⟩, q5⟩ := q
  refine ⟨?_, He.eqO_ok q2, q3, q4, q5⟩
  split at q1
  · rename_i t dd cd sl e
    simp only [Bool.and_eq_true, decide_eq_true_eq] at q1
    obtain ⟨⟨⟨⟨rfl, g1⟩, g2⟩, g3⟩, g4⟩ := q1
    split at g3
    · rename_i C' bm em
      simp only [Bool.and_eq_true, decide_eq_true_eq] at g3
      obtain ⟨rfl, g3⟩ := g3
      split at g4
      · rename_i k0 k1 k2 k3 nw k5 es
        have g4' := of_decide_eq_true g4
        subst g4'
        obtain ⟨nm, bs, mro, ns, qn, hd, sn, sub, ab, col, dl⟩ := cd
        simp only at g1 g2 em
        subst g1 g2 em
        obtain ⟨sl⟩ := sl
        simp only at es
        subst es
        exact ⟨nm, qn, ns, bs, bm, sn, sub, ab, col, dd, k0, k1, k2, k3, k5, e, g3⟩
      · cases g4
    · cases g3
  · cases q1
def exiB (K : PySem.W.Frag) (e : ExI) : Bool := e.flds.isEmpty || (xfB K (He.ga K e.nm) && (e.flds.all fun f => He.eqO (PySem.W.findIn K (.ref (He.ga K e.nm)) (Str.ofString f)) (some none)) && oexB K (He.ga K e.nm) &&
  He.eqO (PySem.W.findIn K (.ref (He.ga K e.nm)) "__init__") (some (some (.ref (He.fAd K (e.nm, some ("__init__" : Str)))))) && decide (PySem.W.typeIn K (.ref (He.fAd K (e.nm, some ("__init__" : Str)))) = some (.type "function")))
def Pg.exB (p : Pg) (K : PySem.W.Frag) : Bool :=
  (p.cons.all fun q => He.tupB K q.1 (q.2.map dvOf) && q.2.all leafD) && (p.exs.all (exiB K)) &&
  (List.range p.exs.length).all fun i => match p.exs[i]? with
    | some e => e.flds.isEmpty || (List.range p.exs.length).all fun j => match p.exs[j]? with
      | some k => decide (PySem.W.exmOne K (.ref (He.ga K e.nm)) (.ref (He.ga K k.nm)) = some (p.isa (p.cls.length + i) (p.cls.length + j)))
      | none => true
    | none => true
section
variable {P : Program} {w : World} {K : PySem.W.Frag} {mg : Str → Option Value} {base h : Heap} {C : Ck} {L : Nat} {fa : List He.Fa} {defs : List He.DefD} {p : Pg}
theorem DefOk.fnf {d : He.DefD} {fi : FI} {x : Str × Option Str} {N ps : List Str} {i : Nat} (D : DefOk C d fi x N ps) (c : He.SaysD fa defs K) (e : defs[i]? = some d) : PySem.W.keepIn K (.ref (He.fAd K x)) = true ∧ Nonempty (FnF K C fi (He.fAd K x)) := by
  obtain ⟨fd, F⟩ := c.def_ i (d := d) e
  have e1 : d.dvs K = [] := by unfold He.DefD.dvs; rw [D.dfl]; rfl
  have e2 : d.kws K = [] := by unfold He.DefD.kws; rw [D.kwd]; rfl
  rw [e1, e2, D.at_] at F
  exact ⟨F.kp, ⟨⟨d.name, d.qual, d.params, d.body, d.scope, N, ps, fd, F, D.S, F.bindsN D.hb, D.np, D.ns, D.ck⟩⟩⟩
theorem fact_in (c : He.SaysD fa defs K) {f : He.Fa} (h : f ∈ fa) : f.ok K = true := by
  obtain ⟨i, e⟩ := List.getElem?_of_mem h
  exact c.fact i e
theorem fa0_in {f : He.Fa} (h : f ∈ p.fa0) : f ∈ p.fa := List.mem_append_left _ (List.mem_append_left _ (List.mem_append_left _ h))
theorem fa_cls {k : ClsI} {f : He.Fa} (hk : k ∈ p.cls) (h : f ∈ k.fa) : f ∈ p.fa := by
  refine fa0_in ?_
  unfold Pg.fa0
  exact List.mem_append_left _ (List.mem_append_right _ (List.mem_flatMap.mpr ⟨k, hk, h⟩))
theorem lookup_mem' {m : String} {f : Nat} : ∀ {l : List (String × Nat)}, l.lookup m = some f → (m, f) ∈ l
  | [], h => by cases h
  | (a, b) :: r, h => by
    rw [List.lookup_cons] at h
    split at h
    · rename_i e
      obtain rfl := eq_of_beq e
      cases h; exact List.mem_cons_self ..
    · exact List.mem_cons_of_mem _ (lookup_mem' h)
theorem leaf_rep {G : Gx} {as : List Addr} {H : Hp} : ∀ {ds : List D}, ds.all leafD = true → Reps G as H ds ((ds.map dvOf).map (He.Dv.v G.K)) ∧ ds.all flat = true
  | [], _ => ⟨by simp [Reps], rfl⟩
  | d :: ds, h => by
    simp only [List.all_cons, Bool.and_eq_true] at h
    obtain ⟨h1, h2⟩ := leaf_rep (ds := ds) h.2
    simp only [List.map_cons, List.all_cons, h2, Bool.and_true]
    have h0 := h.1
    cases d <;> first | (simp [leafD] at h0; done) | exact ⟨by simp only [Reps]; exact ⟨_, _, rfl, by simp only [Rep]; rfl, h1⟩, rfl⟩
theorem consOk (X : K.In h) (G : h.Ns mainGlobals mg) (c : He.SaysD p.fa defs K) (hx : p.exB K = true) : p.ConsOk0 K mg := by
  intro q hq
  unfold Pg.exB at hx
  simp only [Bool.and_eq_true] at hx
  have h1 := List.all_eq_true.mp hx.1.1 q hq
  simp only [Bool.and_eq_true] at h1
  refine ⟨He.glo_ok X G (fact_in c (List.mem_append_right _ (List.mem_map_of_mem (f := fun q : Str × List D => He.Fa.glo q.1) hq))), _, He.tupB_ok h1.1, fun G as H e => ?_, (leaf_rep (G := ⟨⟨[], [], [], fun _ _ => false, [], fun _ => []⟩, K, fun _ => none, fun _ => none, fun _ => none, none, none⟩) (as := []) (H := fun _ => none) h1.2).2⟩
  subst e
  exact (leaf_rep h1.2).1
theorem exs_at {c : Nat} {x : Str} (hc : c ∈ p.xc) (e : (p.cls.map (·.nm) ++ p.exs.map (·.nm))[c]? = some x) : ∃ i k, c = p.cls.length + i ∧ i < p.exs.length ∧ p.exs[i]? = some k ∧ x = k.nm ∧ p.exf c = k.flds := by
  unfold Pg.xc at hc
  obtain ⟨i, hi, rfl⟩ := List.mem_map.mp hc
  rw [List.mem_range] at hi
  rw [List.getElem?_append_right (by simp), List.getElem?_map, List.length_map, show p.cls.length + i - p.cls.length = i by omega] at e
  obtain ⟨k, ek, rfl⟩ := Option.map_eq_some_iff.mp e
  refine ⟨i, k, rfl, hi, ek, rfl, ?_⟩
  unfold Pg.exf
  rw [if_neg (by omega), show p.cls.length + i - p.cls.length = i by omega, ek]
theorem exf_at {c : Nat} (h : 0 < (p.exf c).length) : ∃ i k, c = p.cls.length + i ∧ i < p.exs.length ∧ p.exs[i]? = some k ∧ k.flds = p.exf c := by
  unfold Pg.exf at h ⊢
  by_cases hc : c < p.cls.length
  · rw [if_pos hc] at h; simp at h
  · rw [if_neg hc] at h ⊢
    cases e : p.exs[c - p.cls.length]? with
    | none => rw [e] at h; simp at h
    | some k => exact ⟨c - p.cls.length, k, by omega, (List.getElem?_eq_some_iff.mp e).1, e, rfl⟩
theorem ca_at {ns : List Int} {oa : Option Addr} {i : Nat} {k : ExI} (ek : p.exs[i]? = some k) : (p.mx ns K oa).ca (p.cls.length + i) = some (He.ga K k.nm) := by
  show ((p.cls.map (·.nm) ++ p.exs.map (·.nm))[p.cls.length + i]?).map (He.ga K) = _
  rw [List.getElem?_append_right (by simp), List.getElem?_map, List.length_map, show p.cls.length + i - p.cls.length = i by omega, ek]; rfl
theorem exi_ok {e : ExI} (hx : p.exB K = true) (he : e ∈ p.exs) (hf : e.flds ≠ []) : XfC K (He.ga K e.nm) ∧ (∀ f ∈ e.flds, PySem.W.findIn K (.ref (He.ga K e.nm)) (Str.ofString f) = some none) ∧ OexC K (He.ga K e.nm) ∧
    PySem.W.findIn K (.ref (He.ga K e.nm)) "__init__" = some (some (.ref (He.fAd K (e.nm, some ("__init__" : Str))))) ∧ PySem.W.typeIn K (.ref (He.fAd K (e.nm, some ("__init__" : Str)))) = some (.type "function") := by
  unfold Pg.exB at hx
  simp only [Bool.and_eq_true] at hx
  have h1 := List.all_eq_true.mp hx.1.2 e he
  unfold exiB at h1
  have hne : e.flds.isEmpty = false := by simpa using hf
  simp only [hne, Bool.false_or, Bool.and_eq_true, decide_eq_true_eq, List.all_eq_true] at h1
  obtain ⟨⟨⟨⟨g1, g2⟩, g3⟩, g4⟩, g5⟩ := h1
  exact ⟨xfB_ok g1, fun f hf => He.eqO_ok (g2 f hf), oexB_ok g3, He.eqO_ok g4, g5⟩
theorem factsP (X : K.In h) (G : h.Ns mainGlobals mg) (c : He.SaysD p.fa defs K) (hd : p.Ok defs) (hx : p.exB K = true)
    {ns : List Int} {oa : Option Addr} (ho : ∀ a, oa = some a → ∀ H : Hp, SqL K H a (ns.map V.int)) : Facts P w K mg base (p.mx ns K oa) p.ck where
  fn := fun f a e => by
    simp only [Pg.mx, Option.map_eq_some_iff] at e
    obtain ⟨x, ex, rfl⟩ := e
    obtain ⟨fi, d, N, ps, e1, e2, D⟩ := hd.fn f x ex
    obtain ⟨kp, F⟩ := D.fnf c e2
    exact ⟨kp, fi, e1, F⟩
  nm := fun f x e => by
    refine ⟨He.ga K x, He.glo_ok X G (fact_in c ?_), by show (p.names[f]?).map (He.ga K) = _; rw [show p.names[f]? = some x from e]; rfl⟩
    refine fa0_in ?_
    unfold Pg.fa0
    exact List.mem_append_left _ (List.mem_append_left _ (List.mem_append_left _ (List.mem_map_of_mem (List.mem_of_getElem? e))))
  con := fun g ys a e1 e2 => by
    have e1' : (p.cons.map (·.2))[g]? = some ys := e1
    rw [List.getElem?_map, Option.map_eq_some_iff] at e1'
    obtain ⟨q, eq, rfl⟩ := e1'
    have hg : g < p.cons.length := (List.getElem?_eq_some_iff.mp eq).1
    simp only [Pg.mx, if_pos hg, eq, Option.map_some, Option.some.injEq] at e2
    subst e2
    obtain ⟨_, vs, k1, k2, k3⟩ := consOk X G c hx q (List.mem_of_getElem? eq)
    exact ⟨vs, fun H as => ⟨k1 H, k2 _ as H rfl⟩, k3⟩
  scr := fun a e H => by
    have e' : (if (p.cons.map (·.2)).length < p.cons.length then (p.cons[(p.cons.map (·.2)).length]?).map (fun q => He.ga K q.1) else if (p.cons.map (·.2)).length = p.cons.length then oa else none) = some a := e
    rw [List.length_map, if_neg (Nat.lt_irrefl _), if_pos rfl] at e'
    exact ho a e' H
  glb := fun g x e => by
    have e' : (p.cons.map (·.1))[g]? = some x := e
    rw [List.getElem?_map, Option.map_eq_some_iff] at e'
    obtain ⟨q, eq, rfl⟩ := e'
    have hg : g < p.cons.length := (List.getElem?_eq_some_iff.mp eq).1
    exact ⟨He.ga K q.1, (consOk X G c hx q (List.mem_of_getElem? eq)).1, by simp only [Pg.mx, if_pos hg, eq, Option.map_some]⟩
  cls := fun cc ci e Ca eC => by
    have e' : (p.cls.map (·.ci))[cc]? = some ci := e
    rw [List.getElem?_map, Option.map_eq_some_iff] at e'
    obtain ⟨k, ek, rfl⟩ := e'
    have hk := List.mem_of_getElem? ek
    have hl : cc < (p.cls.map (·.nm)).length := by rw [List.length_map]; exact (List.getElem?_eq_some_iff.mp ek).1
    simp only [Pg.mx] at eC
    rw [List.getElem?_append_left hl, List.getElem?_map, ek] at eC
    cases eC
    refine ⟨He.cls_ok (fact_in c (fa_cls hk ?_)), fun f hf => He.noat_ok (fact_in c (fa_cls hk ?_)), fun m f em => ?_⟩
    · exact List.mem_append_left _ (List.mem_append_left _ (List.mem_cons_of_mem _ (List.mem_cons_self ..)))
    · exact List.mem_append_left _ (List.mem_append_left _ (List.mem_cons_of_mem _ (List.mem_cons_of_mem _ (List.mem_map_of_mem hf))))
    · have hm := lookup_mem' em
      obtain ⟨fi, d, N, ps, e1, e2, D⟩ := hd.mt cc k ek _ hm
      refine ⟨_, fi, He.meth_ok (fact_in c (fa_cls hk ?_)), e1, (D.fnf c e2).2⟩
      exact List.mem_append_left _ (List.mem_append_right _ (List.mem_map_of_mem (f := fun p => He.Fa.meth k.nm (Str.ofString p.1)) hm))
  mks := fun cc x h1 h2 => by
    obtain ⟨k, f, ek, ei⟩ := hd.nw cc h1
    have hk := List.mem_of_getElem? ek
    have hl : cc < (p.cls.map (·.nm)).length := by rw [List.length_map]; exact (List.getElem?_eq_some_iff.mp ek).1
    have h2' : (p.cls.map (·.nm) ++ p.exs.map (·.nm))[cc]? = some x := h2
    rw [List.getElem?_append_left hl, List.getElem?_map, ek] at h2'
    cases h2'
    obtain ⟨fi, d, N, ps, e1, e2, D⟩ := hd.ini cc k ek f ei
    refine ⟨k.ci, f, He.ga K k.nm, _, fi, ?_, ei, ?_, He.glo_ok X G (fact_in c (fa_cls hk ?_)), He.mkr_ok (fact_in c (fa_cls hk ?_)), e1, (D.fnf c e2).2⟩
    · show (p.cls.map (·.ci))[cc]? = _
      rw [List.getElem?_map, ek]; rfl
    · show ((p.cls.map (·.nm) ++ p.exs.map (·.nm))[cc]?).map (He.ga K) = _
      rw [List.getElem?_append_left hl, List.getElem?_map, ek]; rfl
    · exact List.mem_append_left _ (List.mem_append_left _ (List.mem_cons_self ..))
    · refine List.mem_append_right _ ?_
      rw [ei]; exact List.mem_cons_self ..
  exs := fun cc x h1 h2 => by
    obtain ⟨h1, h1'⟩ := List.mem_filter.mp h1
    obtain ⟨i, k, rfl, hi, ek, rfl, ef⟩ := exs_at h1 h2
    have hk := List.mem_of_getElem? ek
    have hf : k.flds ≠ [] := by rw [← ef]; simpa using h1'
    obtain ⟨q1, q2, q3, q4, q5⟩ := exi_ok hx hk hf
    obtain ⟨d, N, ps, ed, D⟩ := hd.ex k hk hf
    obtain ⟨fd, F⟩ := c.def_ k.ini (d := d) ed
    have e1 : d.dvs K = [] := by unfold He.DefD.dvs; rw [D.dfl]; rfl
    have e2 : d.kws K = [] := by unfold He.DefD.kws; rw [D.kwd]; rfl
    rw [e1, e2, D.at_] at F
    refine ⟨He.ga K k.nm, _, fd, ps, ca_at ek, He.glo_ok X G (fact_in c ?_), q3, q4, q5, ?_, F.bindsN D.hb⟩
    · exact List.mem_append_left _ (List.mem_append_right _ (List.mem_map_of_mem (f := fun e : ExI => He.Fa.glo e.nm) hk))
    · show FnOk P w K mg base CX0 1 _ fd ps (spX _ (p.exf _))
      rw [ef]
      exact init_ok F D.S q3 (by cases h : k.flds with | nil => exact absurd h hf | cons _ _ => simp) D.l9 D.ck D.ln D.nn q2
  exm := by
    refine ⟨fun kk x h1 h2 => ?_, fun cc kk Ca Ka h1 h2 g1 g2 => ?_, fun cc Ca h1 g1 => ?_⟩
    · obtain ⟨i, k, rfl, hi, ek, rfl, ef⟩ := exs_at h1 h2
      exact ⟨_, ca_at ek, He.glo_ok X G (fact_in c (List.mem_append_left _ (List.mem_append_right _ (List.mem_map_of_mem (f := fun e : ExI => He.Fa.glo e.nm) (List.mem_of_getElem? ek)))))⟩
    · obtain ⟨i, e, rfl, hi, ee, ef⟩ := exf_at h1
      have h2' : kk ∈ p.xc := h2
      unfold Pg.xc at h2'
      obtain ⟨j, hj, rfl⟩ := List.mem_map.mp h2'
      rw [List.mem_range] at hj
      obtain ⟨k, ek⟩ : ∃ k, p.exs[j]? = some k := ⟨p.exs[j], by simp [hj]⟩
      rw [ca_at ee] at g1; rw [ca_at ek] at g2
      cases g1; cases g2
      unfold Pg.exB at hx
      simp only [Bool.and_eq_true] at hx
      have z1 := List.all_eq_true.mp hx.2 i (List.mem_range.mpr hi)
      rw [ee] at z1
      have hne : e.flds.isEmpty = false := by rw [ef]; cases q : p.exf (p.cls.length + i) with | nil => rw [show (p.mx ns K oa).W.exf = p.exf from rfl, q] at h1; simp at h1 | cons _ _ => rfl
      simp only [hne, Bool.false_or] at z1
      have z2 := List.all_eq_true.mp z1 j (List.mem_range.mpr hj)
      rw [ek] at z2
      exact of_decide_eq_true z2
    · obtain ⟨i, e, rfl, hi, ee, ef⟩ := exf_at h1
      rw [ca_at ee] at g1
      cases g1
      have hf : e.flds ≠ [] := fun q => by rw [ef] at q; rw [show (p.mx ns K oa).W.exf = p.exf from rfl, q] at h1; simp at h1
      obtain ⟨q1, q2, _⟩ := exi_ok hx (List.mem_of_getElem? ee) hf
      refine ⟨q1, fun f hff => q2 f ?_⟩
      rw [ef]; exact hff
  hot := rfl
  nex := rfl
  nxd := rfl
  ncx := rfl
  gi := fun g x i e => He.int_ok X G (fact_in c (List.mem_append_left _ (List.mem_append_left _ (List.mem_append_right _ (List.mem_map_of_mem (f := fun q : Str × Int => He.Fa.int q.1 q.2) (List.mem_of_getElem? e))))))
  bl := fun x hx => He.free_ok X G (fact_in c (by
    refine fa0_in ?_
    unfold Pg.fa0
    exact List.mem_append_left _ (List.mem_append_left _ (List.mem_append_right _ (List.mem_map_of_mem hx)))))
  gs := fun g x s e => He.str_ok X G (fact_in c (by
    refine fa0_in ?_
    unfold Pg.fa0
    exact List.mem_append_right _ (List.mem_map_of_mem (f := fun q : Str × List Char => He.Fa.str q.1 (st q.2)) (List.mem_of_getElem? e))))
/-- the law's def: whatever the script's object is -/
def spL (p : Pg) (K : PySem.W.Frag) (L n f : Nat) : Sp := fun vs H Q E => ∃ (ns : List Int) (oa : Option Addr), (∀ a, oa = some a → ∀ H : Hp, SqL K H a (ns.map V.int)) ∧ spI (p.mx ns K oa) K (callF (p.wd ns) L n) 1 f vs H Q fun _ _ _ => False
theorem law_ok {n f : Nat} {fi : FI} {d : He.DefD} {x : Str} (X : K.In h) (G : h.Ns mainGlobals mg) (c : He.SaysD p.fa defs K) (hd : p.Ok defs) (hx : p.exB K = true)
    {N : List Str} (ef : p.fns[f]? = some fi) (ed : defs[f]? = some d) (D : DefOk p.ck d fi (x, none) N [("script" : Str)]) :
    ∃ fd : FuncData, (∀ (s : Shared) (v : Value), BindsTo s fd ⟨[v], []⟩ [(("script" : Str), v)]) ∧ ∀ base : Heap, K.In base → base.Ns mainGlobals mg → FnG P w K mg base L2.CX0 (2 * n + 1) (He.ga K x) fd [("script" : Str)] (spL p K L n f) := by
  obtain ⟨fd, F⟩ := c.def_ f (d := d) ed
  have e1 : d.dvs K = [] := by unfold He.DefD.dvs; rw [D.dfl]; rfl
  have e2 : d.kws K = [] := by unfold He.DefD.kws; rw [D.kwd]; rfl
  rw [e1, e2, D.at_] at F
  refine ⟨fd, fun s v => FunD.bindsA F D.hb s [v] rfl, fun base _ _ => ?_⟩
  have go : ∀ (ns : List Int) (oa : Option Addr), (∀ a, oa = some a → ∀ H : Hp, SqL K H a (ns.map V.int)) → FnG P w K mg base L2.CX0 (2 * n + 1) (He.ga K x) fd [("script" : Str)] (fun vs H Q _ => spI (p.mx ns K oa) K (callF (p.wd ns) L n) 1 f vs H Q fun _ _ _ => False) := fun ns oa ho => by
    have Fx : Facts P w K mg base (p.mx ns K oa) p.ck := factsP X G c hd hx ho
    have q := fnOk (L := L) Fx n f (He.ga K x) fi ef ⟨d.name, d.qual, d.params, d.body, d.scope, N, [("script" : Str)], fd, F, D.S, F.bindsN D.hb, D.np, D.ns, D.ck⟩
    rw [← D.np] at q
    exact FnG.cx0 q
  refine ⟨fun vs H Q E ⟨ns, oa, ho, q⟩ => (go ns oa ho).ln vs H Q E q, fun A outer s H args us vs Q E g hr e0 hb r ⟨ns, oa, ho, q⟩ => (go ns oa ho).go A outer s H args us vs Q E g hr e0 hb r q⟩
/-- the start: the script is known to the object, or it is an object of the module -/
theorem sp_start {n f : Nat} {H : Hp} {a : Addr} {ns : List Int} (hO : Only H) (hS : SqL K H a (ns.map V.int))
    (hr : ∀ (d : D) (h : Hs), (d = .ob 0 ∧ h = [.scr ns]) ∨ (d = .con p.cons.length ∧ h = []) → ∃ h', callF (p.wd ns) L n f [d] h = .ok (.bl true) h') : spL p K L n f [.ref a] H (fun v _ => v = .bl true) fun _ _ _ => False := by
  rcases hS with hS | hK
  · obtain ⟨o, e⟩ : ∃ o, H a = some (.frz o (.lst (ns.map V.int))) := by
      rcases hS with e | e
      · rcases hO a with q | ⟨o, xs, q⟩
        · rw [e] at q; cases q
        · rw [e] at q; cases q
      · exact e
    obtain ⟨h', eh⟩ := hr (.ob 0) [.scr ns] (.inl ⟨rfl, rfl⟩)
    refine ⟨ns, none, (fun a q => by cases q), rfl, [.ob 0], [.scr ns], [a], ⟨(fun _ _ q => by cases q), rfl, (by simp), fun n mo b e1 e2 => ?_⟩, ?_, ?_⟩
    · cases n with
      | zero => simp at e1 e2; subst e1 e2; exact ⟨o, e⟩
      | succ n => simp at e1
    · simp only [Reps]
      exact ⟨_, _, rfl, by simp only [Rep]; exact ⟨a, rfl, rfl⟩, rfl⟩
    · rw [eh]
      intro v as' H' _ _ r
      simpa only [Rep] using r
  · obtain ⟨h', eh⟩ := hr (.con p.cons.length) [] (.inr ⟨rfl, rfl⟩)
    refine ⟨ns, some a, (fun b q H => by cases q; exact .inr hK), rfl, [.con p.cons.length], [], [], ⟨(fun _ _ q => by cases q), rfl, (by simp), (fun n mo b e1 e2 => by simp at e1)⟩, ?_, ?_⟩
    · simp only [Reps]
      refine ⟨_, _, rfl, ?_, rfl⟩
      simp only [Rep]
      refine ⟨a, rfl, ?_⟩
      show (if p.cons.length < p.cons.length then _ else if p.cons.length = p.cons.length then some a else none) = some a
      rw [if_neg (Nat.lt_irrefl _), if_pos rfl]
    · rw [eh]
      intro v as' H' _ _ r
      simpa only [Rep] using r
/-- a law from its facts -/
theorem facts {n f : Nat} {fi : FI} {d : He.DefD} (hd : p.Ok defs) {N : List Str} (ef : p.fns[f]? = some fi) (en : p.names[f]? = some ("law" : Str)) (ed : defs[f]? = some d) (Dk : DefOk p.ck d fi (("law" : Str), none) N [("script" : Str)])
    (hrun : ∀ (ns : List Int) (d : D) (h : Hs), ns.length ≤ 63 → (d = .ob 0 ∧ h = [.scr ns]) ∨ (d = .con p.cons.length ∧ h = []) → ∃ h', callF (p.wd ns) L n f [d] h = .ok (.bl true) h')
    {fa : Addr} (X : K.In h) (G : h.Ns mainGlobals mg) (hfa : mg ("law" : Str) = some (.ref fa)) (c : He.SaysD p.fa defs K) (hx : p.exB K = true) :
    ∃ (fd : FuncData) (sp : Sp), (∀ (s : Shared) (v : Value), BindsTo s fd ⟨[v], []⟩ [(("script" : Str), v)]) ∧
      (∀ (H : Hp) (a : Addr) (ns : List Int), ns.length ≤ 63 → Only H → SqL K H a (ns.map V.int) → sp [.ref a] H (fun v _ => v = .bl true) fun _ _ _ => False) ∧
      ∀ base : Heap, K.In base → base.Ns mainGlobals mg → FnG P w K mg base L2.CX0 (2 * n + 1) fa fd [("script" : Str)] sp := by
  have e := hfa.symm.trans (He.glo_ok X G (fact_in c (by
    refine fa0_in ?_
    unfold Pg.fa0
    exact List.mem_append_left _ (List.mem_append_left _ (List.mem_append_left _ (List.mem_map_of_mem (List.mem_of_getElem? en)))))))
  cases e
  obtain ⟨fd, hb, hF⟩ := law_ok (L := L) (n := n) (f := f) (P := P) (w := w) X G c hd hx ef ed Dk
  exact ⟨fd, _, hb, fun H a ns hl hO hS => sp_start hO hS fun d h q => hrun ns d h hl q, hF⟩
end
end Rf
end

section
namespace Rf
open PySem PySem.Spec PyProof.Rows L2

/-! ## running terms -/
def getV (o : Option (Option D)) (h : Hs) : R D := match o with | some (some d) => .ok d h | _ => .no
def getF (o : Option (Option D)) (k : Nat → R D) : R D := match o with | some (some (.fn f)) => k f | _ => .no
def getS (o : Option (Option D)) (k : D → RS) : RS := match o with | some (some d) => k d | _ => .no
def ixO (o : Option MO) (k : D) (h : Hs) : R D := match o, k with
  | some (.lst xs), .int i => ofO (atI xs i) h
  | some (.scr xs), .int i => ofO ((atI xs i).map D.int) h
  | some (.dic _ t kvs), k => if okK t kvs k then ofO (kvGet kvs k) h else .no
  | _, _ => .no
def slO (o : Option MO) (lo hi : Option Int) (h : Hs) : R D := match o with
  | some (.lst xs) => .ok (.ob h.length) (h ++ [.lst (cutD xs lo hi)])
  | some (.scr xs) => .ok (.ob h.length) (h ++ [.lst ((cutD xs lo hi).map D.int)])
  | _ => .no
def putO (n : Nat) (o : Option MO) (i v : D) (h : Hs) : Option Hs := match o, i with
  | some (.lst xs), .int k => (ixN xs.length k).map fun j => h.set n (.lst (xs.set j v))
  | some (.dic false t kvs), k => if okK t kvs k && decide (kvs.length < sizeLine) then some (h.set n (.dic false t (kvPut kvs k v))) else none
  | _, _ => none
def lenO (o : Option MO) (h : Hs) : R D := match o with
  | some (.lst s) => .ok (.int s.length) h
  | some (.scr s) => .ok (.int s.length) h
  | some (.dic _ false s) => .ok (.int s.length) h
  | _ => .no
def tupO (o : Option MO) (h : Hs) : R D := match o with
  | some (.lst s) => .ok (.tup s) h
  | _ => .no
def lstO (o : Option MO) (h : Hs) : R D := match o with
  | some (.lst s) => .ok (.ob h.length) (h ++ [.lst s])
  | some (.scr s) => .ok (.ob h.length) (h ++ [.lst (s.map D.int)])
  | some (.dic false false kvs) => .ok (.ob h.length) (h ++ [.lst (kvs.map (·.1))])
  | _ => .no
def appO (n : Nat) (o : Option MO) (y : D) (h : Hs) : R D := match o with
  | some (.lst s) => if s.length < sizeLine then .ok .non (h.set n (.lst (s ++ [y]))) else .no
  | _ => .no
def inO (o : Option MO) (x : D) : Option Bool := match o with
  | some (.lst ys) => if flat x && ys.all flat then some (inL x ys) else none
  | some (.dic _ t kvs) => if okK t kvs x then some (kvGet kvs x).isSome else none
  | _ => none
def itO (n : Nat) (o : Option MO) (h : Hs) : Option (List D × Gd × Hs) := match o with
  | some (.lst s) => some (s, .keep n (.lst s), h)
  | some (.scr s) => some (s.map D.int, .keep n (.scr s), h)
  | some (.dic true false kvs) => some (kvs.map (·.1), .keep n (.dic true false kvs), h)
  | some (.dic false false kvs) => some (kvs.map (·.1), .lock n false kvs, h.set n (.dic true false kvs))
  | _ => none
section
variable {W : Wd} {L : Nat} {cf : CF} {cx : CXI} {cs : List (List D)} {n : Nat} {h : Hs} {σ : Sg}
theorem r_var {i} : evalE W cf cx (.var i) σ h = getV σ[i]? h := by
  simp only [evalE, getV] <;> (rcases σ[i]? with _ | _ | d <;> rfl)
@[simp] theorem getV_s (d : D) : getV (some (some d)) h = .ok d h := rfl
theorem r_cav {i es} : evalE W cf none (.cav i es) σ h = getF σ[i]? fun f => (evalEs W cf none es σ h).bind fun xs h => cf f xs h := by
  simp only [evalE, getF] <;> (rcases σ[i]? with _ | _ | d <;> first | rfl | (cases d <;> rfl))
@[simp] theorem getF_s (f : Nat) (k) : getF (some (some (.fn f))) k = k f := rfl
theorem r_aug {i o e} : evalS W L cf none (.aug i o e) σ h = getS σ[i]? fun x => (evalE W cf none e σ h).stm σ fun y h => (augD o x y h).stm σ fun z h => .ok (.nx (σ.set i (some z))) h := by
  simp only [evalS, getS] <;> (rcases σ[i]? with _ | _ | d <;> rfl)
@[simp] theorem getS_s (d : D) (k) : getS (some (some d)) k = k d := rfl
theorem r_ix_ob {k} : ixD cs (.ob n) k h = ixO h[n]? k h := by
  cases e : h[n]? with
  | none => cases k <;> simp only [ixD, ixO, e]
  | some mo => cases mo <;> cases k <;> simp only [ixD, ixO, e]
@[simp] theorem ixO_l (xs i) : ixO (some (.lst xs)) (.int i) h = ofO (atI xs i) h := rfl
@[simp] theorem ixO_s (xs i) : ixO (some (.scr xs)) (.int i) h = ofO ((atI xs i).map D.int) h := rfl
@[simp] theorem ixO_d (lk t kvs k) : ixO (some (.dic lk t kvs)) k h = if okK t kvs k then ofO (kvGet kvs k) h else .no := by cases k <;> rfl
@[simp] theorem r_ix_tup (xs i) : ixD cs (.tup xs) (.int i) h = ofO (atI xs i) h := rfl
theorem r_sl_ob {a b} : slD (.ob n) a b h = slO h[n]? a b h := by
  cases e : h[n]? with
  | none => simp only [slD, slO, e]
  | some mo => cases mo <;> simp only [slD, slO, e]
@[simp] theorem slO_l (xs a b) : slO (some (.lst xs)) a b h = .ok (.ob h.length) (h ++ [.lst (cutD xs a b)]) := rfl
@[simp] theorem r_sl_tup (xs a b) : slD (.tup xs) a b h = .ok (.tup (cutD xs a b)) h := rfl
theorem r_put_ob {i v} : putD (.ob n) i v h = putO n h[n]? i v h := by
  cases e : h[n]? with
  | none => cases i <;> simp only [putD, putO, e]
  | some mo => cases mo with
    | dic lk t kvs => cases lk <;> cases i <;> simp only [putD, putO, e]
    | _ => cases i <;> simp only [putD, putO, e]
@[simp] theorem putO_l (xs k v) : putO n (some (.lst xs)) (.int k) v h = (ixN xs.length k).map fun j => h.set n (.lst (xs.set j v)) := rfl
@[simp] theorem putO_d (t kvs k v) : putO n (some (.dic false t kvs)) k v h = if okK t kvs k && decide (kvs.length < sizeLine) then some (h.set n (.dic false t (kvPut kvs k v))) else none := by cases k <;> rfl
@[simp] theorem r_len_tup (s) : bltC W .len [.tup s] h = .ok (.int s.length) h := rfl
@[simp] theorem r_len_str (s) : bltC W .len [.str s] h = if s.length ≤ sizeLine then .ok (.int s.length) h else .no := rfl
theorem r_len_ob : bltC W .len [.ob n] h = lenO h[n]? h := by
  have q : bltC W .len [.ob n] h = bltD .len [.ob n] h := rfl
  rw [q]
  cases e : h[n]? with
  | none => simp only [bltD, lenO, e]
  | some mo => cases mo with
    | dic lk t kvs => cases lk <;> cases t <;> simp only [bltD, lenO, e]
    | _ => simp only [bltD, lenO, e]
@[simp] theorem lenO_l (s) : lenO (some (.lst s)) h = .ok (.int s.length) h := rfl
@[simp] theorem lenO_s (s) : lenO (some (.scr s)) h = .ok (.int s.length) h := rfl
@[simp] theorem lenO_d (lk s) : lenO (some (.dic lk false s)) h = .ok (.int s.length) h := rfl
@[simp] theorem r_abs (i) : bltC W .abs [.int i] h = .ok (.int (if i < 0 then -i else i)) h := rfl
@[simp] theorem r_int (i) : bltC W .int [.int i] h = .ok (.int i) h := rfl
@[simp] theorem r_intb (b) : bltC W .int [.bl b] h = .ok (.int (if b then 1 else 0)) h := rfl
@[simp] theorem r_min (i j) : bltC W .min2 [.int i, .int j] h = .ok (.int (if j < i then j else i)) h := rfl
@[simp] theorem r_max (i j) : bltC W .max2 [.int i, .int j] h = .ok (.int (if j > i then j else i)) h := rfl
@[simp] theorem r_tup_tup (s) : bltC W .tuple [.tup s] h = .ok (.tup s) h := rfl
theorem r_tup_ob : bltC W .tuple [.ob n] h = tupO h[n]? h := by
  have q : bltC W .tuple [.ob n] h = bltD .tuple [.ob n] h := rfl
  rw [q]
  cases e : h[n]? with
  | none => simp only [bltD, tupO, e]
  | some mo => cases mo with
    | dic lk t kvs => cases lk <;> cases t <;> simp only [bltD, tupO, e]
    | _ => simp only [bltD, tupO, e]
@[simp] theorem tupO_l (s) : tupO (some (.lst s)) h = .ok (.tup s) h := rfl
@[simp] theorem r_lst_tup (s) : bltC W .list [.tup s] h = .ok (.ob h.length) (h ++ [.lst s]) := rfl
theorem r_lst_ob : bltC W .list [.ob n] h = lstO h[n]? h := by
  have q : bltC W .list [.ob n] h = bltD .list [.ob n] h := rfl
  rw [q]
  cases e : h[n]? with
  | none => simp only [bltD, lstO, e]
  | some mo => cases mo with
    | dic lk t kvs => cases lk <;> cases t <;> simp only [bltD, lstO, e]
    | _ => simp only [bltD, lstO, e]
@[simp] theorem lstO_l (s) : lstO (some (.lst s)) h = .ok (.ob h.length) (h ++ [.lst s]) := rfl
@[simp] theorem lstO_s (s) : lstO (some (.scr s)) h = .ok (.ob h.length) (h ++ [.lst (s.map D.int)]) := rfl
@[simp] theorem lstO_d (s) : lstO (some (.dic false false s)) h = .ok (.ob h.length) (h ++ [.lst (s.map (·.1))]) := rfl
theorem r_lst_con (g) : bltC W .list [.con g] h = if g = W.cons.length then .ok (.ob h.length) (h ++ [.lst (W.scr.map D.int)]) else match W.cons[g]? with
      | some ys => .ok (.ob h.length) (h ++ [.lst ys])
      | none => .no := rfl
@[simp] theorem r_isTup_tup (s) : bltC W .isTup [.tup s] h = .ok (.bl true) h := rfl
@[simp] theorem r_add (i j) : opD .add (.int i) (.int j) h = .ok (.int (i + j)) h := rfl
@[simp] theorem r_sub (i j) : opD .sub (.int i) (.int j) h = .ok (.int (i - j)) h := rfl
@[simp] theorem r_mul (i j) : opD .mul (.int i) (.int j) h = if (-(2 ^ 64) < i ∧ i < 2 ^ 64) ∨ (-(2 ^ 64) < j ∧ j < 2 ^ 64) then .ok (.int (i * j)) h else .no := rfl
@[simp] theorem r_fdiv (i j) : opD .fdiv (.int i) (.int j) h = if j ≠ 0 ∧ j.natAbs < 1073741824 then .ok (.int (i.fdiv j)) h else .no := rfl
@[simp] theorem r_mod (i j) : opD .mod (.int i) (.int j) h = if j ≠ 0 then .ok (.int (i.fmod j)) h else .no := rfl
@[simp] theorem r_addt (s t) : opD .add (.tup s) (.tup t) h = if s.length + t.length ≤ sizeLine then .ok (.tup (s ++ t)) h else .no := rfl
@[simp] theorem r_adds (s t) : opD .add (.str s) (.str t) h = if s.length + t.length ≤ sizeLine then .ok (.str (s ++ t)) h else .no := rfl
def catO (o o' : Option MO) (h : Hs) : R D := match o, o' with
  | some (.lst s), some (.lst t) => if s.length + t.length ≤ sizeLine then .ok (.ob h.length) (h ++ [.lst (s ++ t)]) else .no
  | _, _ => .no
theorem r_addl (n m) : opD .add (.ob n) (.ob m) h = catO h[n]? h[m]? h := by
  cases e : h[n]? with
  | none => simp only [opD, catO, e]
  | some mo => cases e2 : h[m]? with
    | none => cases mo <;> simp only [opD, catO, e, e2]
    | some mo2 => cases mo <;> cases mo2 <;> simp only [opD, catO, e, e2]
@[simp] theorem catO_l (s t) : catO (some (.lst s)) (some (.lst t)) h = if s.length + t.length ≤ sizeLine then .ok (.ob h.length) (h ++ [.lst (s ++ t)]) else .no := rfl
@[simp] theorem r_lt (i j) : cmpA cs .lt (.int i) (.int j) h = .ok (.bl (decide (i < j))) h := rfl
@[simp] theorem r_le (i j) : cmpA cs .le (.int i) (.int j) h = .ok (.bl (decide (i ≤ j))) h := rfl
@[simp] theorem r_gt (i j) : cmpA cs .gt (.int i) (.int j) h = .ok (.bl (decide (j < i))) h := rfl
@[simp] theorem r_ge (i j) : cmpA cs .ge (.int i) (.int j) h = .ok (.bl (decide (j ≤ i))) h := rfl
theorem eqD_flat {x y : D} (hx : flat x = true) (hy : flat y = true) : eqD h x y = some (eqv x y) := by
  unfold eqD
  split
  · simp [flat, pur] at hx
  · rw [hx, hy]; rfl
theorem dicB_flat {x y : D} (hx : flat x = true) : dicB x y h = none := by
  unfold dicB
  split
  · simp [flat, pur] at hx
  · rfl
theorem r_eq {x y : D} (hx : flat x = true) (hy : flat y = true) : cmpA cs .eq x y h = .ok (.bl (eqv x y)) h := by
  simp only [cmpA, dicB_flat hx, cmpD, eqD_flat hx hy]
theorem r_ne {x y : D} (hx : flat x = true) (hy : flat y = true) : cmpA cs .ne x y h = .ok (.bl (!eqv x y)) h := by
  simp only [cmpA, dicB_flat hx, cmpD, eqD_flat hx hy]
theorem r_ned {n m : Nat} {lk lk' : Bool} {ks ls : List (D × D)} (e1 : h[n]? = some (.dic lk false ks)) (e2 : h[m]? = some (.dic lk' false ls)) : cmpA cs .ne (.ob n) (.ob m) h = (ofO (eqKV ks ls) h).bind fun b h => .ok (.bl (!b)) h := by
  have q : dicB (.ob n) (.ob m) h = some (ks, ls) := by simp only [dicB, e1, e2]
  simp only [cmpA, q]
theorem r_dict {n : Nat} {lk : Bool} {kvs : List (D × D)} (e1 : h[n]? = some (.dic lk false kvs)) : bltC W .dict [.ob n] h = .ok (.ob h.length) (h ++ [.dic false false kvs]) := by
  have q : bltC W .dict [.ob n] h = bltD .dict [.ob n] h := rfl
  rw [q]
  simp only [bltD, e1]
@[simp] theorem r_eqi (i j) : cmpA cs .eq (.int i) (.int j) h = .ok (.bl (i == j)) h := r_eq rfl rfl
@[simp] theorem r_eqs (i j) : cmpA cs .eq (.str i) (.str j) h = .ok (.bl (i == j)) h := r_eq rfl rfl
@[simp] theorem r_nes (i j) : cmpA cs .ne (.str i) (.str j) h = .ok (.bl (!(i == j))) h := r_ne rfl rfl
theorem r_nin_ob {x} : cmpA cs .nin x (.ob n) h = (ofO (inO h[n]? x) h).bind fun b h => .ok (.bl (!b)) h := by
  have q : inD cs x (.ob n) h = inO h[n]? x := by
    cases e : h[n]? with
    | none => simp only [inD, inO, e]
    | some mo => cases mo <;> simp only [inD, inO, e]
  simp only [cmpA, q]
theorem r_in_ob {x} : cmpA cs .in_ x (.ob n) h = (ofO (inO h[n]? x) h).bind fun b h => .ok (.bl b) h := by
  have q : inD cs x (.ob n) h = inO h[n]? x := by
    cases e : h[n]? with
    | none => simp only [inD, inO, e]
    | some mo => cases mo <;> simp only [inD, inO, e]
  simp only [cmpA, q]
@[simp] theorem inO_l (x ys) : inO (some (.lst ys)) x = if flat x && ys.all flat then some (inL x ys) else none := rfl
@[simp] theorem inO_d (lk t kvs x) : inO (some (.dic lk t kvs)) x = if okK t kvs x then some (kvGet kvs x).isSome else none := rfl
@[simp] theorem r_tbl (b) : truthR (.bl b) h = .ok b h := rfl
@[simp] theorem r_tint (i) : truthR (.int i) h = .ok (i != 0) h := rfl
theorem r_met_lst {o m es x s h1} (eo : evalE W cf none o σ h = .ok (.ob x) h1) (e : h1[x]? = some (.lst s)) (hm : m = "append") : evalE W cf none (.met o m es) σ h = (evalEs W cf none es σ h1).bind fun xs h => methD .append (.ob x) xs h := by
  subst hm
  simp [evalE, eo, isIns, e, mtOf]
theorem r_app {n y} : methD .append (.ob n) [y] h = appO n h[n]? y h := by
  cases e : h[n]? with
  | none => simp only [methD, appO, e]
  | some mo => cases mo <;> simp only [methD, appO, e]
@[simp] theorem appO_l (s y) : appO n (some (.lst s)) y h = if s.length < sizeLine then .ok .non (h.set n (.lst (s ++ [y]))) else .no := rfl
theorem r_it_ob : itemsI cs .seq [.ob n] h = itO n h[n]? h := by
  cases e : h[n]? with
  | none => simp only [itemsI, itO, e]
  | some mo => cases mo with
    | dic lk t kvs => cases lk <;> cases t <;> simp only [itemsI, itO, e]
    | _ => simp only [itemsI, itO, e]
@[simp] theorem r_it_tup (s) : itemsI cs .seq [.tup s] h = some (s, .none, h) := rfl
@[simp] theorem itO_l (s) : itO n (some (.lst s)) h = some (s, .keep n (.lst s), h) := rfl
@[simp] theorem itO_d (kvs) : itO n (some (.dic false false kvs)) h = some (kvs.map (·.1), .lock n false kvs, h.set n (.dic true false kvs)) := rfl
theorem r_rng1 (j) : itemsI cs .rng1 [.int j] h = if -(2 ^ 62) ≤ j ∧ j < 2 ^ 62 then some ((List.range j.toNat).map fun (i : Nat) => D.int (0 + (i : Int)), .none, h) else none := rfl
theorem rng_small {j : Int} (h0 : 0 ≤ j) (h1 : j ≤ 1000000) : itemsI cs .rng1 [.int j] h = some ((List.range j.toNat).map fun (i : Nat) => D.int (i : Int), .none, h) := by
  rw [r_rng1, if_pos ⟨by omega, by omega⟩]
  simp only [Int.zero_add]
@[simp] theorem bindT_nm (i d) : bindT (.nm i) d σ = some (σ.set i (some d)) := rfl
theorem forI_nil {g turn} (hs : same g h) : forI g turn [] σ h = .ok (.nx σ) (endG g h) := by simp [forI, hs]
theorem forI_nx {g turn d ds σ' h'} (hs : same g h) (e : turn d σ h = .ok (.nx σ') h') : forI g turn (d :: ds) σ h = forI g turn ds σ' h' := by simp [forI, hs, e]
theorem lcI_nil {g turn acc} (hs : same g h) : lcI g turn [] acc h = .ok acc (endG g h) := by simp [lcI, hs]
theorem lcI_some {g turn d ds acc x h'} (hs : same g h) (e : turn d h = .ok (some x) h') (hl : acc.length < sizeLine) : lcI g turn (d :: ds) acc h = lcI g turn ds (acc ++ [x]) h' := by simp [lcI, hs, e, hl]
theorem lcI_skip {g turn d ds acc h'} (hs : same g h) (e : turn d h = .ok none h') : lcI g turn (d :: ds) acc h = lcI g turn ds acc h' := by simp [lcI, hs, e]
/-- a loop's turn -/
noncomputable def fT (W : Wd) (L : Nat) (cf : CF) (tg : Tg) (b : List S) : D → Sg → Hs → RS := fun d σ h => match bindT tg d σ with | some σ => evalB W L cf none b σ h | none => .no
theorem fT_some {tg b d σ1} (e : bindT tg d σ = some σ1) : fT W L cf tg b d σ h = evalB W L cf none b σ1 h := by unfold fT; rw [e]
theorem r_for {tg k its b} : evalS W L cf none (.for_ tg k its b) σ h = (evalEs W cf none its σ h).stm σ fun xs h => (ofO (itemsI W.cons k xs h) h).stm σ fun ig h =>
    forI ig.2.1 (fT W L cf tg b) ig.1 σ ig.2.2 := by
  simp only [evalS] <;> rfl
/-- a comprehension's turn -/
noncomputable def lT (W : Wd) (cf : CF) (own : List Nat) (tg : Tg) (cd : List E) (el : E) (σ : Sg) : D → Hs → R (Option D) := lcTurn (fun d => bindT tg d (wipeI σ own)) (fun σ1 h => (evalEs W cf none cd σ1 h).bind cdB) (fun σ1 h => evalE W cf none el σ1 h)
theorem r_lc {own tg k its cd el} : evalE W cf none (.lc own tg k its cd el) σ h = (evalEs W cf none its σ h).bind fun xs h => (ofO (itemsI W.cons k xs h) h).bind fun ig h =>
    (lcI ig.2.1 (lT W cf own tg cd el σ) ig.1 [] ig.2.2).bind lcEnd := by simp only [evalE] <;> rfl
theorem lT_nil {own tg el d σ1} (e : bindT tg d (wipeI σ own) = some σ1) : lT W cf own tg [] el σ d h = ((evalE W cf none el σ1 h).bind fun x h => .ok (some x) h).shut := by
  simp [lT, lcTurn, e, evalEs, cdB]
theorem q_set {i e} : evalS W L cf cx (.set i e) σ h = (evalE W cf cx e σ h).stm σ fun x h => .ok (.nx (σ.set i (some x))) h := by simp only [evalS]
theorem q_put {o i e} : evalS W L cf none (.put o i e) σ h = (evalE W cf none e σ h).stm σ fun v h => (evalE W cf none o σ h).stm σ fun x h => (evalE W cf none i σ h).stm σ fun y h => match putD x y v h with
    | some h => .ok (.nx σ) h
    | none => .no := by simp only [evalS] <;> rfl
theorem q_expr {e} : evalS W L cf cx (.expr e) σ h = (evalE W cf cx e σ h).stm σ fun _ h => .ok (.nx σ) h := by simp only [evalS]
theorem q_ret {e} : evalS W L cf cx (.ret e) σ h = (evalE W cf cx e σ h).stm σ fun x h => .ok (.rt x) h := by simp only [evalS]
theorem q_retN : evalS W L cf cx .retN σ h = .ok (.rt .non) h := by simp only [evalS]
theorem q_ife {c a b} : evalS W L cf cx (.ife c a b) σ h = (evalE W cf cx c σ h).stm σ fun x h => (truthR x h).stm σ fun t h => if t then evalB W L cf cx a σ h else evalB W L cf cx b σ h := by simp only [evalS]
theorem q_cons {s r} : evalB W L cf cx (s :: r) σ h = (evalS W L cf cx s σ h).then fun σ h => evalB W L cf cx r σ h := by simp only [evalB]
theorem q_nil : evalB W L cf cx [] σ h = .ok (.nx σ) h := by simp only [evalB]
theorem q_cst {d} : evalE W cf cx (.cst d) σ h = .ok d h := by simp only [evalE]
theorem q_bin {o a b} : evalE W cf cx (.bin o a b) σ h = (evalE W cf cx a σ h).bind fun x h => (evalE W cf cx b σ h).bind fun y h => opD o x y h := by simp only [evalE]
theorem q_neg {a} : evalE W cf cx (.neg a) σ h = (evalE W cf cx a σ h).bind fun x h => match x with | .int i => .ok (.int (-i)) h | _ => .no := by simp only [evalE] <;> rfl
theorem q_cmp {o a b} : evalE W cf cx (.cmp o a b) σ h = (evalE W cf cx a σ h).bind fun x h => (evalE W cf cx b σ h).bind fun y h => cmpA W.cons o x y h := by simp only [evalE]
theorem q_and {a b} : evalE W cf cx (.and a b) σ h = (evalE W cf cx a σ h).bind fun x h => (truthR x h).bind fun t h => if t then evalE W cf cx b σ h else .ok x h := by simp only [evalE]
theorem q_or {a b} : evalE W cf cx (.or a b) σ h = (evalE W cf cx a σ h).bind fun x h => (truthR x h).bind fun t h => if t then .ok x h else evalE W cf cx b σ h := by simp only [evalE]
theorem q_not {a} : evalE W cf cx (.not a) σ h = (evalE W cf cx a σ h).bind fun x h => (truthR x h).bind fun t h => .ok (.bl (!t)) h := by simp only [evalE]
theorem q_eife {c a b} : evalE W cf cx (.ife c a b) σ h = (evalE W cf cx c σ h).bind fun x h => (truthR x h).bind fun t h => if t then evalE W cf cx a σ h else evalE W cf cx b σ h := by simp only [evalE]
theorem q_tup {es} : evalE W cf cx (.tup es) σ h = (evalEs W cf cx es σ h).bind fun xs h => if xs.length ≤ sizeLine then .ok (.tup xs) h else .no := by simp only [evalE]
theorem q_lst {es} : evalE W cf cx (.lst es) σ h = (evalEs W cf cx es σ h).bind fun xs h => if xs.length ≤ sizeLine then .ok (.ob h.length) (h ++ [.lst xs]) else .no := by simp only [evalE]
theorem q_dic {t} : evalE W cf cx (.dic t [] []) σ h = .ok (.ob h.length) (h ++ [.dic false t []]) := by simp only [evalE]
theorem q_ix {a i} : evalE W cf cx (.ix a i) σ h = (evalE W cf cx a σ h).bind fun x h => (evalE W cf cx i σ h).bind fun y h => ixD W.cons x y h := by simp only [evalE]
theorem q_slc {a lo hi} : evalE W cf cx (.slc a lo hi) σ h = (evalE W cf cx a σ h).bind fun x h => (evalEs W cf cx lo σ h).bind fun l h => (ofO (optI l) h).bind fun l h => (evalEs W cf cx hi σ h).bind fun u h => (ofO (optI u) h).bind fun u h => slD x l u h := by simp only [evalE]
theorem q_cal {f es} : evalE W cf cx (.cal f es) σ h = (evalEs W cf cx es σ h).bind fun xs h => cf f xs h := by simp only [evalE]
theorem q_blt {b es} : evalE W cf cx (.blt b es) σ h = (evalEs W cf cx es σ h).bind fun xs h => bltC W b xs h := by simp only [evalE]
theorem q_enil : evalEs W cf cx [] σ h = .ok [] h := by simp only [evalEs]
theorem q_econs {e es} : evalEs W cf cx (e :: es) σ h = (evalE W cf cx e σ h).bind fun x h => (evalEs W cf cx es σ h).bind fun xs h => .ok (x :: xs) h := by simp only [evalEs]
/-- a method of a value that is no instance -/
noncomputable def metK (W : Wd) (cf : CF) (m : String) (es : List E) (σ : Sg) (x : D) (h : Hs) : R D := match isIns x h with
    | some (c, fs) => match (W.cls[c]?).bind fun ci => ci.meths.lookup m with
      | some f => if (fs.lookup m).isNone then (evalEs W cf none es σ h).bind fun xs h => cf f (x :: xs) h else .no
      | none => .no
    | none => match mtOf x m h with
      | some k => (evalEs W cf none es σ h).bind fun xs h => methD k x xs h
      | none => .no
theorem q_met {o m es} : evalE W cf none (.met o m es) σ h = (evalE W cf none o σ h).bind fun x h => metK W cf m es σ x h := by simp only [evalE, metK] <;> rfl
theorem callF_s {f : Nat} {fi : FI} {ds : List D} (e : W.fns[f]? = some fi) (hl : ds.length = fi.np) : callF W L (n + 1) f ds h = (evalB W L (callF W L n) none fi.body (Rf.start fi.ns ds) h).fin := by
  simp [callF, e, hl]
@[simp] theorem stm_ofO_none {α : Type} (h : Hs) (σ) (f : α → Hs → RS) : (ofO (none : Option α) h).stm σ f = .no := rfl
/-- heaps -/
theorem lk_app {t : Hs} {o : MO} (e : h[n]? = some o) : (h ++ t)[n]? = some o := by
  rw [List.getElem?_append_left (List.getElem?_eq_some_iff.mp e).1]; exact e
theorem lk_new {o : MO} : (h ++ [o])[h.length]? = some o := by simp
theorem lk_lt {o : MO} (e : h[n]? = some o) : n < h.length := (List.getElem?_eq_some_iff.mp e).1
theorem atI_nat {α : Type} {xs : List α} {i : Nat} (hi : i < xs.length) : atI xs (i : Int) = some xs[i] := by
  have : (0 : Int) ≤ i := Int.natCast_nonneg i
  have h2 : (i : Int) < xs.length := by exact_mod_cast hi
  simp [atI, ixN, this, hi]
end
end Rf
namespace Rf
open PySem PySem.Spec PyProof.Rows L2
theorem atI_some {α : Type} {xs : List α} {k : Int} (h0 : 0 ≤ k) (h1 : k < xs.length) : ∃ x, x ∈ xs ∧ atI xs k = some x := by
  have hk : k.toNat < xs.length := by omega
  refine ⟨xs[k.toNat], List.getElem_mem hk, ?_⟩
  simp [atI, ixN, h0, h1, hk]
end Rf
namespace Rf
open PySem PySem.Spec PyProof.Rows L2
def insO (o : Option MO) : Option (Nat × List (String × D)) := match o with
  | some (.ins c fs) => some (c, fs)
  | _ => none
def mtO (o : Option MO) (m : String) : Option Mt := match o with
  | some (.lst _) => if m = "append" then some .append else if m = "reverse" then some .reverse else if m = "extend" then some .extend else if m = "pop" then some .pop else if m = "insert" then some .insert else none
  | some (.dic false false _) => if m = "update" then some .update else none
  | _ => none
section
variable {n : Nat} {h : Hs}
theorem r_ins : isIns (.ob n) h = insO h[n]? := by
  cases e : h[n]? with
  | none => simp only [isIns, insO, e]
  | some mo => cases mo <;> simp only [isIns, insO, e]
@[simp] theorem insO_l (s) : insO (some (.lst s)) = none := rfl
theorem r_mt {m} : mtOf (.ob n) m h = mtO h[n]? m := by
  cases e : h[n]? with
  | none => simp only [mtOf, mtO, e]
  | some mo => cases mo with
    | dic lk t kvs => cases lk <;> cases t <;> simp only [mtOf, mtO, e]
    | _ => simp only [mtOf, mtO, e]
@[simp] theorem r_mts (s m) : mtOf (.str s) m h = if m = "isalnum" then some .isalnum else if m = "startswith" then some .startswith else if m = "find" then some .find else if m = "lower" then some .lower else none := rfl
@[simp] theorem mtO_l (s) : mtO (some (.lst s)) "append" = some .append := rfl
@[simp] theorem mtO_r (s) : mtO (some (.lst s)) "reverse" = some .reverse := rfl
@[simp] theorem mtO_e (s) : mtO (some (.lst s)) "extend" = some .extend := rfl
@[simp] theorem mtO_p (s) : mtO (some (.lst s)) "pop" = some .pop := rfl
noncomputable def metO (W : Wd) (cf : CF) (n : Nat) (o : Option MO) (es : List E) (σ : Sg) (h : Hs) : R D := match o with
  | some (.lst _) => (evalEs W cf none es σ h).bind fun xs h => methD .append (.ob n) xs h
  | _ => .no
theorem r_metapp {W : Wd} {cf : CF} {es : List E} {σ : Sg} {s : List D} (e : h[n]? = some (.lst s)) : metK W cf "append" es σ (.ob n) h = (evalEs W cf none es σ h).bind fun xs h => methD .append (.ob n) xs h := by
  unfold metK
  simp only [r_ins, r_mt, e, insO_l, mtO_l]
end
end Rf
namespace Rf
section
variable {α : Type} (a b c d : α) (r : List α)
theorem atI_0 : L2.atI (a :: r) 0 = some a := by
  have : (0 : Int) < ((a :: r).length : Int) := by simp only [List.length_cons]; omega
  simp only [L2.atI, L2.ixN, if_pos this]; rfl
theorem atI_1 : L2.atI (a :: b :: r) 1 = some b := by
  have : (1 : Int) < ((a :: b :: r).length : Int) := by simp only [List.length_cons]; omega
  simp only [L2.atI, L2.ixN, if_pos this]; rfl
theorem atI_2 : L2.atI (a :: b :: c :: r) 2 = some c := by
  have : (2 : Int) < ((a :: b :: c :: r).length : Int) := by simp only [List.length_cons]; omega
  simp only [L2.atI, L2.ixN, if_pos this]; rfl
theorem atI_3 : L2.atI (a :: b :: c :: d :: r) 3 = some d := by
  have : (3 : Int) < ((a :: b :: c :: d :: r).length : Int) := by simp only [List.length_cons]; omega
  simp only [L2.atI, L2.ixN, if_pos this]; rfl
end
end Rf

namespace Rf
open PySem PySem.Spec PyProof.Rows L2
def fldO (cl : List CI) (o : Option MO) (f : String) (h : Hs) : R D := match o with
  | some (.ins c fs) => if hasF cl c f then ofO (fs.lookup f) h else .no
  | _ => .no
def fsetO (cl : List CI) (n : Nat) (o : Option MO) (f : String) (v : D) (h : Hs) : Option Hs := match o with
  | some (.ins c fs) => if hasF cl c f && decide (fs.length < 900) then some (h.set n (.ins c (fput f v fs))) else none
  | _ => none
def backO (o : Option MO) (h : Hs) : R D := match o with
  | some (.lst xs) => .ok (.ob h.length) (h ++ [.lst xs.reverse])
  | _ => .no
def isLO (o : Option MO) (l d : Bool) (h : Hs) : R D := match o with
  | some (.lst _) => .ok (.bl l) h
  | some (.dic false _ _) => .ok (.bl d) h
  | _ => .no
def eqO2 (o o' : Option MO) : Option Bool := match o, o' with
  | some (.lst xs), some (.lst ys) => if purs xs && purs ys && decide (deps xs ≤ 60) && decide (deps ys ≤ 60) then some (eqvs xs ys) else none
  | _, _ => none
section
variable {W : Wd} {L : Nat} {cf : CF} {cs : List (List D)} {cl : List CI} {n : Nat} {h : Hs} {σ : Sg}
theorem r_fld {f} : fldD cl (.ob n) f h = fldO cl h[n]? f h := by
  cases e : h[n]? with
  | none => simp only [fldD, fldO, e]
  | some mo => cases mo <;> simp only [fldD, fldO, e]
@[simp] theorem fldO_i (c fs f) : fldO cl (some (.ins c fs)) f h = if hasF cl c f then ofO (fs.lookup f) h else .no := rfl
theorem r_fset {f v} : fsetD cl (.ob n) f v h = fsetO cl n h[n]? f v h := by
  cases e : h[n]? with
  | none => simp only [fsetD, fsetO, e]
  | some mo => cases mo <;> simp only [fsetD, fsetO, e]
@[simp] theorem fsetO_i (c fs f v) : fsetO cl n (some (.ins c fs)) f v h = if hasF cl c f && decide (fs.length < 900) then some (h.set n (.ins c (fput f v fs))) else none := rfl
theorem q_fld {a f} : evalE W cf none (.fld a f) σ h = (evalE W cf none a σ h).bind fun x h => fldD W.cls x f h := by simp only [evalE]
theorem q_fset {o f e} : evalS W L cf none (.fset o f e) σ h = (evalE W cf none e σ h).stm σ fun v h => (evalE W cf none o σ h).stm σ fun x h => match fsetD W.cls x f v h with
    | some h => .ok (.nx σ) h
    | none => .no := by simp only [evalS] <;> rfl
def newK (o : Nat) : D → Hs → R D := fun r h' => match r with | .non => .ok (.ob o) h' | _ => .no
@[simp] theorem newK_n (o : Nat) (h' : Hs) : newK o .non h' = .ok (.ob o) h' := rfl
theorem q_new {c es} {ci : CI} {f : Nat} (ec : W.cls[c]? = some ci) (ef : ci.ini = some f) : evalE W cf none (.new c es) σ h = (evalEs W cf none es σ h).bind fun xs h => (cf f (.ob h.length :: xs) (h ++ [.ins c []])).bind (newK h.length) := by
  simp only [evalE, ec, ef, Option.bind_some] <;> rfl
theorem q_back {a} : evalE W cf none (.back a) σ h = (evalE W cf none a σ h).bind fun x h => match x with
    | .ob n => backO h[n]? h
    | _ => .no := by
  simp only [evalE] <;> (cases evalE W cf none a σ h <;> rfl)
@[simp] theorem backO_l (s) : backO (some (.lst s)) h = .ok (.ob h.length) (h ++ [.lst s.reverse]) := rfl
theorem r_isList_ob : bltC W .isList [.ob n] h = isLO h[n]? true false h := by
  have q : bltC W .isList [.ob n] h = isObB h n true false := rfl
  rw [q]
  cases e : h[n]? with
  | none => simp only [isObB, isLO, e]
  | some mo => cases mo with
    | dic lk t kvs => cases lk <;> simp only [isObB, isLO, e]
    | _ => simp only [isObB, isLO, e]
theorem r_isTup_ob : bltC W .isTup [.ob n] h = isLO h[n]? false false h := by
  have q : bltC W .isTup [.ob n] h = isObB h n false false := rfl
  rw [q]
  cases e : h[n]? with
  | none => simp only [isObB, isLO, e]
  | some mo => cases mo with
    | dic lk t kvs => cases lk <;> simp only [isObB, isLO, e]
    | _ => simp only [isObB, isLO, e]
@[simp] theorem isLO_l (s l d) : isLO (some (.lst s)) l d h = .ok (.bl l) h := rfl
@[simp] theorem r_isList_tup (s) : bltC W .isList [.tup s] h = .ok (.bl false) h := rfl
@[simp] theorem r_isTup_non : bltC W .isTup [.non] h = .ok (.bl false) h := rfl
@[simp] theorem r_isTup_str (s) : bltC W .isTup [.str s] h = .ok (.bl false) h := rfl
theorem r_repr {xs : List D} (h1 : rpOk (.tup xs) = true) (h2 : dep (.tup xs) ≤ 64) (h3 : (rp (.tup xs)).length ≤ sizeLine) : bltC W .repr [.tup xs] h = .ok (.str (rp (.tup xs))) h := by
  have q : bltC W .repr [.tup xs] h = bltD .repr [.tup xs] h := rfl
  rw [q]
  simp only [bltD, h1, h2, h3, decide_true, Bool.and_true, if_true]
theorem r_eql {m} : eqD h (.ob n) (.ob m) = eqO2 h[n]? h[m]? := by
  cases e : h[n]? with
  | none => simp only [eqD, eqO2, e]
  | some mo => cases e2 : h[m]? with
    | none => cases mo <;> simp only [eqD, eqO2, e, e2]
    | some mo2 => cases mo <;> cases mo2 <;> simp only [eqD, eqO2, e, e2]
theorem r_eqll {m : Nat} {xs ys : List D} (e1 : h[n]? = some (.lst xs)) (e2 : h[m]? = some (.lst ys)) (p1 : purs xs = true) (p2 : purs ys = true) (d1 : deps xs ≤ 60) (d2 : deps ys ≤ 60) :
    cmpA cs .eq (.ob n) (.ob m) h = .ok (.bl (eqvs xs ys)) h ∧ cmpA cs .ne (.ob n) (.ob m) h = .ok (.bl (!eqvs xs ys)) h := by
  have q : dicB (.ob n) (.ob m) h = none := by simp only [dicB, e1, e2]
  have q2 : eqD h (.ob n) (.ob m) = some (eqvs xs ys) := by simp only [r_eql, e1, e2, eqO2, p1, p2, d1, d2, decide_true, Bool.and_true, if_true]
  constructor <;> simp only [cmpA, q, cmpD, q2]
/-- a method of an instance -/
theorem r_metI {m : String} {es : List E} {c : Nat} {fs : List (String × D)} {ci : CI} {f : Nat} (e : h[n]? = some (.ins c fs)) (ec : W.cls[c]? = some ci) (em : ci.meths.lookup m = some f) (ef : fs.lookup m = none) :
    metK W cf m es σ (.ob n) h = (evalEs W cf none es σ h).bind fun xs h => cf f (.ob n :: xs) h := by
  unfold metK
  have q : isIns (.ob n) h = some (c, fs) := by simp only [isIns, e]
  simp only [q, ec, Option.bind_some, em, ef, Option.isNone_none, if_true]
theorem r_metrev {s : List D} (e : h[n]? = some (.lst s)) : metK W cf "reverse" [] σ (.ob n) h = .ok .non (h.set n (.lst s.reverse)) := by
  unfold metK
  simp only [r_ins, r_mt, e, insO_l, mtO_r, q_enil, R.bind_ok, methD]
end
end Rf
namespace Rf
open PySem PySem.Spec PyProof.Rows L2
section
variable {W : Wd} {L : Nat} {cf : CF} {cx : CXI} {cs : List (List D)} {n : Nat} {h : Hs} {σ : Sg}
theorem q_raise {c es} : evalS W L cf cx (.raise c es) σ h = (evalEs W cf cx es σ h).stm σ fun xs h => if 0 < (W.exf c).length ∧ xs.length = (W.exf c).length ∧ xs.length ≤ 900 then .exc c ((W.exf c).zip xs).reverse σ h else .no := by simp only [evalS] <;> rfl
/-- what a try makes of its body's outcome -/
noncomputable def tryK (W : Wd) (L : Nat) (cf : CF) (hs : List (Nat × Option Nat × List S)) (r : RS) : RS := match r with
  | .exc c fs σ1 h1 => if 0 < (W.exf c).length then evalH W L cf c fs hs σ1 h1 else .no
  | r => r
theorem q_try {b hs} : evalS W L cf cx (.try_ b hs) σ h = tryK W L cf hs (evalB W L cf cx b σ h) := by simp only [evalS, tryK] <;> rfl
@[simp] theorem tryK_nx (hs σ h) : tryK W L cf hs (.ok (.nx σ) h) = .ok (.nx σ) h := rfl
@[simp] theorem tryK_rt (hs d h) : tryK W L cf hs (.ok (.rt d) h) = .ok (.rt d) h := rfl
@[simp] theorem tryK_exc (hs c fs σ h) : tryK W L cf hs (.exc c fs σ h) = if 0 < (W.exf c).length then evalH W L cf c fs hs σ h else .no := rfl
theorem q_hnil {c fs} : evalH W L cf c fs [] σ h = .exc c fs σ h := by simp only [evalH]
theorem q_hcons {c fs k o b r} : evalH W L cf c fs ((k, o, b) :: r) σ h = if W.isa c k then (evalB W L cf (some (c, fs)) b (offI o σ) h).offs o else evalH W L cf c fs r σ h := by simp only [evalH]
@[simp] theorem offI_s (i σ) : offI (some i) σ = σ.set i none := rfl
@[simp] theorem offI_n (σ) : offI none σ = σ := rfl
def exfK (W : Wd) (c : Nat) (fs : List (String × D)) (f : String) (o : Option (Option D)) (h : Hs) : R D := match o with
  | some none => if f ∈ W.exf c then ofO (fs.lookup f) h else .no
  | _ => .no
theorem q_exf {i f c fs} : evalE W cf (some (c, fs)) (.exf i f) σ h = exfK W c fs f σ[i]? h := by
  simp only [evalE, exfK] <;> (rcases σ[i]? with _ | _ | d <;> rfl)
@[simp] theorem exfK_n (c fs f) : exfK W c fs f (some none) h = if f ∈ W.exf c then ofO (fs.lookup f) h else .no := rfl
theorem q_gni {g i} : evalE W cf cx (.gni g i) σ h = .ok (.int i) h := by simp only [evalE]
theorem q_glb {g} : evalE W cf cx (.glb g) σ h = .ok (.con g) h := by simp only [evalE]
theorem q_gst {g s} : evalE W cf cx (.gst g s) σ h = .ok (.str s) h := by simp only [evalE]
/-- other methods of lists and dicts -/
theorem r_metl {m : String} {k : Mt} {es : List E} {s : List D} (e : h[n]? = some (.lst s)) (hk : mtO (some (.lst s)) m = some k) : metK W cf m es σ (.ob n) h = (evalEs W cf none es σ h).bind fun xs h => methD k (.ob n) xs h := by
  unfold metK
  simp only [r_ins, r_mt, e, insO_l, hk]
theorem r_metins {es : List E} {s : List D} (e : h[n]? = some (.lst s)) : metK W cf "insert" es σ (.ob n) h = (evalEs W cf none es σ h).bind fun xs h => methD .insert (.ob n) xs h := r_metl e rfl
theorem r_metupd {es : List E} {s : List (D × D)} (e : h[n]? = some (.dic false false s)) : metK W cf "update" es σ (.ob n) h = (evalEs W cf none es σ h).bind fun xs h => methD .update (.ob n) xs h := by
  unfold metK
  have q : insO (some (.dic false false s)) = none := rfl
  have q2 : mtO (some (.dic false false s)) "update" = some .update := rfl
  simp only [r_ins, r_mt, e, q, q2]
theorem r_insert {s : List D} {i : Int} {y : D} (e : h[n]? = some (.lst s)) (h1 : s.length < sizeLine) (h2 : 0 ≤ i) (h3 : i < 2 ^ 62) : methD .insert (.ob n) [.int i, y] h = .ok .non (h.set n (.lst (s.take i.toNat ++ [y] ++ s.drop i.toNat))) := by
  simp only [methD, e, h1, h2, h3, and_self, if_true]
theorem r_update {m : Nat} {ks ls : List (D × D)} {lk : Bool} (e : h[n]? = some (.dic false false ks)) (e2 : h[m]? = some (.dic lk false ls)) (ne : n ≠ m) (hl : ks.length + ls.length ≤ sizeLine) : methD .update (.ob n) [.ob m] h = .ok .non (h.set n (.dic false false (kvMrg ks ls))) := by
  simp only [methD, e, e2, ne, hl, ne_eq, not_false_eq_true, and_self, if_true]
@[simp] theorem r_isx_nn (cs : List (List D)) (h : Hs) : cmpA cs .is_ .non .non h = .ok (.bl true) h := rfl
@[simp] theorem r_isx_tn (cs : List (List D)) (xs : List D) (h : Hs) : cmpA cs .is_ (.tup xs) .non h = .ok (.bl false) h := rfl
@[simp] theorem r_isnx_nn (cs : List (List D)) (h : Hs) : cmpA cs .isn .non .non h = .ok (.bl false) h := rfl
@[simp] theorem r_isnx_tn (cs : List (List D)) (xs : List D) (h : Hs) : cmpA cs .isn (.tup xs) .non h = .ok (.bl true) h := rfl
@[simp] theorem r_isnx_sn (cs : List (List D)) (s : List Char) (h : Hs) : cmpA cs .isn (.str s) .non h = .ok (.bl true) h := rfl
@[simp] theorem r_isx_sn (cs : List (List D)) (s : List Char) (h : Hs) : cmpA cs .is_ (.str s) .non h = .ok (.bl false) h := rfl
end
end Rf
end

section
namespace K01
open PySem PySem.Spec PyProof.Rows L2 Rf
abbrev prog : Program := PySem.Challenge.pw_pourparler_k01_refused_texts
abbrev top (i : Nat) : Stmt := prog.main.body.getD i (.Pass ⟨0, 0, 0, 0⟩)
abbrev mth (i j : Nat) : Stmt := (cbody (top i)).getD j (.Pass ⟨0, 0, 0, 0⟩)
def nmF : List Str := [("_law_wide" : Str), ("_law_take" : Str), ("_law_pool" : Str), ("_law_bad" : Str), ("_law_text" : Str), ("_law_space" : Str), ("_law_joins" : Str), ("_law_number" : Str), ("_law_name" : Str), ("_law_reserved" : Str), ("read_sign" : Str), ("read_number" : Str), ("read_word" : Str), ("read_token" : Str), ("after_run" : Str), ("after_comment" : Str), ("after_blanks" : Str), ("tokens" : Str), ("_law_told" : Str), ("law" : Str)]
/-- _law_wide(script, k, cell, mixed) -/
def f__law_wide : FI := ⟨2, 4,
  [.set 2 (.cst (.int 0)),
  .ife (.cmp .lt (.var 1) (.blt .len [(.var 0)]))
    [.set 2 (.blt .abs [(.ix (.var 0) (.var 1))])]
    [],
  .ife (.cmp .ge (.var 2) (.cst (.int 1000000000000000000)))
    [.ret (.var 2)]
    [],
  .set 3 (.bin .mod (.blt .int [(.bin .add (.bin .mul (.bin .add (.var 2) (.cst (.int 1))) (.cst (.int 6364136223846793005))) (.bin .mul (.bin .add (.var 1) (.cst (.int 1))) (.cst (.int 1442695040888963407))))]) (.cst (.int 2305843009213693951))),
  .ret (.bin .mod (.blt .int [(.bin .add (.bin .mul (.var 3) (.cst (.int 3202034522624059733))) (.bin .fdiv (.var 3) (.cst (.int 1000003))))]) (.cst (.int 2305843009213693951)))]⟩
abbrev s__law_wide : Stmt := top 24
def d__law_wide : He.DefD := ⟨("_law_wide", none), "_law_wide", "_law_wide", defArgs s__law_wide, defBody s__law_wide, defScope s__law_wide, [], []⟩
/-- _law_take(pool, most, value) -/
def f__law_take : FI := ⟨2, 3,
  [.ife (.cmp .lt (.ix (.var 0) (.cst (.int 0))) (.cst (.int 1000)))
    [.put (.var 0) (.cst (.int 2)) (.bin .add (.ix (.var 0) (.cst (.int 2))) (.cst (.int 1))),
    .put (.var 0) (.cst (.int 0)) (.cal 0 [(.ix (.var 0) (.cst (.int 1))), (.ix (.var 0) (.cst (.int 2)))])]
    [],
  .set 2 (.bin .mod (.blt .int [(.ix (.var 0) (.cst (.int 0)))]) (.var 1)),
  .put (.var 0) (.cst (.int 0)) (.bin .fdiv (.ix (.var 0) (.cst (.int 0))) (.var 1)),
  .ret (.var 2)]⟩
abbrev s__law_take : Stmt := top 25
def d__law_take : He.DefD := ⟨("_law_take", none), "_law_take", "_law_take", defArgs s__law_take, defBody s__law_take, defScope s__law_take, [], []⟩
/-- _law_pool(script) -/
def f__law_pool : FI := ⟨1, 1,
  [.ret (.lst [(.cst (.int 0)), (.blt .list [(.var 0)]), (.neg (.cst (.int 1)))])]⟩
abbrev s__law_pool : Stmt := top 26
def d__law_pool : He.DefD := ⟨("_law_pool", none), "_law_pool", "_law_pool", defArgs s__law_pool, defBody s__law_pool, defScope s__law_pool, [], []⟩
/-- _law_bad(pool, choice) -/
def f__law_bad : FI := ⟨1, 2,
  [.set 1 (.cal 1 [(.var 0), (.cst (.int 6))]),
  .ife (.cmp .eq (.var 1) (.cst (.int 0)))
    [.ret (.ix (.cst (.str ['!', '"', '$', '&', '\'', '/', '>', '?', '@', '[', '\\', ']', '^', '_', '`', '|'])) (.cal 1 [(.var 0), (.cst (.int 16))]))]
    [],
  .ife (.cmp .eq (.var 1) (.cst (.int 1)))
    [.ret (.bin .add (.ix (.lst [(.cst (.str ['a'])), (.cst (.str ['Z', '9']))]) (.cal 1 [(.var 0), (.cst (.int 2))])) (.bin .mul (.cst (.str ['b', '_'])) (.bin .add (.cst (.int 10)) (.cal 1 [(.var 0), (.cst (.int 8))]))))]
    [],
  .ife (.cmp .eq (.var 1) (.cst (.int 2)))
    [.ret (.blt .str [(.bin .add (.cst (.int 65536)) (.bin .mul (.cal 1 [(.var 0), (.cst (.int 1000000))]) (.cal 1 [(.var 0), (.cst (.int 99999))])))])]
    [],
  .ife (.cmp .eq (.var 1) (.cst (.int 3)))
    [.ret (.bin .add (.bin .mul (.cst (.str ['0'])) (.bin .add (.cst (.int 1)) (.cal 1 [(.var 0), (.cst (.int 3))]))) (.blt .str [(.cal 1 [(.var 0), (.cst (.int 999))])]))]
    [],
  .ife (.cmp .eq (.var 1) (.cst (.int 4)))
    [.ret (.bin .add (.blt .str [(.cal 1 [(.var 0), (.cst (.int 70000))])]) (.ix (.lst [(.cst (.str ['a'])), (.cst (.str ['_'])), (.cst (.str ['x', '9'])), (.cst (.str ['Z']))]) (.cal 1 [(.var 0), (.cst (.int 4))])))]
    [],
  .ret (.ix (.lst [(.cst (.str ['1', '2', '3', '4', '5', '6', '7', '8', '9', '0', '1', '2', '3', '4', '5', '6', '7', '8', '9', '0', '1', '2', '3', '4', '5', '6', '7', '8', '9', '0'])), (.cst (.str ['0', '0'])), (.cst (.str ['9', '9', '9', '9', '9', '9', '9', '9']))]) (.cal 1 [(.var 0), (.cst (.int 3))]))]⟩
abbrev s__law_bad : Stmt := top 33
def d__law_bad : He.DefD := ⟨("_law_bad", none), "_law_bad", "_law_bad", defArgs s__law_bad, defBody s__law_bad, defScope s__law_bad, [], []⟩
/-- _law_text(pool, parts, text, places, k) -/
def f__law_text : FI := ⟨2, 5,
  [.set 2 (.cal 5 [(.var 0), (.cst (.bl false))]),
  .set 3 (.lst []),
  .for_ (.nm 4) .rng1 [(.blt .len [(.var 1)])]
    [.expr (.met (.var 3) "append" [(.blt .len [(.var 2)])]),
    .set 2 (.bin .add (.var 2) (.ix (.var 1) (.var 4))),
    .set 2 (.bin .add (.var 2) (.cal 5 [(.var 0), (.and (.cmp .lt (.bin .add (.var 4) (.cst (.int 1))) (.blt .len [(.var 1)])) (.cal 6 [(.ix (.var 1) (.var 4)), (.ix (.var 1) (.blt .min2 [(.bin .add (.var 4) (.cst (.int 1))), (.bin .sub (.blt .len [(.var 1)]) (.cst (.int 1)))]))]))]))],
  .ret (.lst [(.var 2), (.var 3)])]⟩
abbrev s__law_text : Stmt := top 32
def d__law_text : He.DefD := ⟨("_law_text", none), "_law_text", "_law_text", defArgs s__law_text, defBody s__law_text, defScope s__law_text, [], []⟩
/-- _law_space(pool, needed, spaces, space) -/
def f__law_space : FI := ⟨2, 4,
  [.set 2 (.lst [(.cst (.str [])), (.cst (.str [' '])), (.cst (.str ['\n'])), (.cst (.str ['\t'])), (.cst (.str [' ', ' ', '\n', ' '])), (.cst (.str [' ', '#', ' ', 'a', ' ', '=', '=', ' ', '(', 'b', '\n'])), (.cst (.str ['#', '\n'])), (.cst (.str [' ']))]),
  .set 3 (.ix (.var 2) (.cal 1 [(.var 0), (.cst (.int 8))])),
  .ife (.and (.var 1) (.cmp .eq (.var 3) (.cst (.str []))))
    [.ret (.cst (.str [' ']))]
    [],
  .ret (.var 3)]⟩
abbrev s__law_space : Stmt := top 31
def d__law_space : He.DefD := ⟨("_law_space", none), "_law_space", "_law_space", defArgs s__law_space, defBody s__law_space, defScope s__law_space, [], []⟩
/-- _law_joins(left, right, one, two) -/
def f__law_joins : FI := ⟨2, 4,
  [.set 2 (.or (.met (.ix (.var 0) (.neg (.cst (.int 1)))) "isalnum" []) (.cmp .eq (.ix (.var 0) (.neg (.cst (.int 1)))) (.cst (.str ['_'])))),
  .set 3 (.or (.met (.ix (.var 1) (.cst (.int 0))) "isalnum" []) (.cmp .eq (.ix (.var 1) (.cst (.int 0))) (.cst (.str ['_'])))),
  .ife (.and (.var 2) (.var 3))
    [.ret (.cst (.bl true))]
    [],
  .ret (.and (.or (.cmp .eq (.var 0) (.cst (.str ['=']))) (.cmp .eq (.var 0) (.cst (.str ['<'])))) (.cmp .eq (.ix (.var 1) (.cst (.int 0))) (.cst (.str ['=']))))]⟩
abbrev s__law_joins : Stmt := top 30
def d__law_joins : He.DefD := ⟨("_law_joins", none), "_law_joins", "_law_joins", defArgs s__law_joins, defBody s__law_joins, defScope s__law_joins, [], []⟩
/-- _law_number(pool) -/
def f__law_number : FI := ⟨1, 1,
  [.ret (.ix (.lst [(.cst (.int 0)), (.cst (.int 1)), (.cst (.int 9)), (.cst (.int 10)), (.cst (.int 65535)), (.cst (.int 4096)), (.cst (.int 305)), (.cal 1 [(.var 0), (.cst (.int 65536))])]) (.cal 1 [(.var 0), (.cst (.int 8))]))]⟩
abbrev s__law_number : Stmt := top 29
def d__law_number : He.DefD := ⟨("_law_number", none), "_law_number", "_law_number", defArgs s__law_number, defBody s__law_number, defScope s__law_number, [], []⟩
/-- _law_name(pool, letters, name, k) -/
def f__law_name : FI := ⟨1, 4,
  [.set 1 (.cst (.str ['a', 'b', 'c', 'd', 'e', 'f', 'g', 'h', 'i', 'j', 'k', 'l', 'm', 'n', 'o', 'p', 'q', 'r', 's', 't', 'u', 'v', 'w', 'x', 'y', 'z', 'A', 'B', 'C', 'D', 'E', 'F', 'G', 'H', 'I', 'J', 'K', 'L', 'M', 'N', 'O', 'P', 'Q', 'R', 'S', 'T', 'U', 'V', 'W', 'X', 'Y', 'Z'])),
  .set 2 (.ix (.lst [(.cst (.str ['e', 'n', 'd', '_'])), (.cst (.str ['s', 'a', 'y', '1'])), (.cst (.str ['T', 'a', 'l', 'k'])), (.cst (.str ['n', 'o', 't', 's'])), (.cst (.str ['o', 'r', '_'])), (.cst (.str ['x'])), (.cst (.str ['c'])), (.cst (.str ['e', 'n', 'd', 'i', 'n', 'g']))]) (.cal 1 [(.var 0), (.cst (.int 8))])),
  .ife (.cmp .gt (.cal 1 [(.var 0), (.cst (.int 3))]) (.cst (.int 0)))
    [.set 2 (.ix (.var 1) (.cal 1 [(.var 0), (.cst (.int 52))])),
    .for_ (.nm 3) .rng1 [(.ix (.lst [(.cst (.int 0)), (.cst (.int 1)), (.cst (.int 2)), (.cst (.int 3)), (.cst (.int 7)), (.cst (.int 19))]) (.cal 1 [(.var 0), (.cst (.int 6))]))]
      [.set 2 (.bin .add (.var 2) (.ix (.bin .add (.var 1) (.cst (.str ['0', '1', '2', '3', '4', '5', '6', '7', '8', '9', '_']))) (.cal 1 [(.var 0), (.cst (.int 63))])))]]
    [],
  .ife (.cmp .in_ (.var 2) (.cal 9 []))
    [.set 2 (.bin .add (.var 2) (.cst (.str ['_'])))]
    [],
  .ret (.var 2)]⟩
abbrev s__law_name : Stmt := top 28
def d__law_name : He.DefD := ⟨("_law_name", none), "_law_name", "_law_name", defArgs s__law_name, defBody s__law_name, defScope s__law_name, [], []⟩
/-- _law_reserved(first) -/
def f__law_reserved : FI := ⟨0, 1,
  [.set 0 (.lst [(.cst (.str ['a', 'c', 't', 'o', 'r'])), (.cst (.str ['a', 'n', 'd'])), (.cst (.str ['b', 'e', 'c', 'o', 'm', 'e'])), (.cst (.str ['b', 'o', 'o', 'l'])), (.cst (.str ['c', 'l', 'o', 's', 'e'])), (.cst (.str ['d', 'o', 'n', 'e'])), (.cst (.str ['d', 'r', 'o', 'p'])), (.cst (.str ['e', 'l', 's', 'e'])), (.cst (.str ['e', 'n', 'd'])), (.cst (.str ['f', 'a', 'i', 'l'])), (.cst (.str ['f', 'a', 'l', 'l'])), (.cst (.str ['f', 'a', 'l', 's', 'e']))]),
  .ret (.bin .add (.var 0) (.lst [(.cst (.str ['h', 'e', 'a', 'r'])), (.cst (.str ['i', 'f'])), (.cst (.str ['i', 'n', 't'])), (.cst (.str ['l', 'e', 't'])), (.cst (.str ['n', 'o', 't'])), (.cst (.str ['o', 'p', 'e', 'n'])), (.cst (.str ['o', 'r'])), (.cst (.str ['s', 'a', 'y'])), (.cst (.str ['t', 'a', 'l', 'k'])), (.cst (.str ['t', 'r', 'u', 'e']))]))]⟩
abbrev s__law_reserved : Stmt := top 27
def d__law_reserved : He.DefD := ⟨("_law_reserved", none), "_law_reserved", "_law_reserved", defArgs s__law_reserved, defBody s__law_reserved, defScope s__law_reserved, [], []⟩
/-- read_sign(text, at, sign) -/
def f_read_sign : FI := ⟨2, 3,
  [.for_ (.nm 2) .seq [(.glb 1)]
    [.ife (.met (.var 0) "startswith" [(.var 2), (.var 1)])
      [.ret (.tup [(.cst (.str ['s', 'i', 'g', 'n'])), (.var 2), (.bin .add (.var 1) (.blt .len [(.var 2)]))])]
      []],
  .raise 1 [(.var 1)]]⟩
abbrev s_read_sign : Stmt := top 22
def d_read_sign : He.DefD := ⟨("read_sign", none), "read_sign", "read_sign", defArgs s_read_sign, defBody s_read_sign, defScope s_read_sign, [], []⟩
/-- read_number(text, at, after, digits) -/
def f_read_number : FI := ⟨2, 4,
  [.set 2 (.cal 14 [(.var 0), (.var 1), (.gst 1 ['0', '1', '2', '3', '4', '5', '6', '7', '8', '9'])]),
  .set 3 (.slc (.var 0) [(.var 1)] [(.var 2)]),
  .ife (.or (.cmp .gt (.blt .len [(.var 3)]) (.gni 3 (5))) (.cmp .gt (.blt .int [(.var 3)]) (.gni 2 (65535))))
    [.raise 1 [(.var 1)]]
    [],
  .ife (.and (.cmp .eq (.ix (.var 3) (.cst (.int 0))) (.cst (.str ['0']))) (.cmp .gt (.blt .len [(.var 3)]) (.cst (.int 1))))
    [.raise 1 [(.var 1)]]
    [],
  .ife (.and (.cmp .lt (.var 2) (.blt .len [(.var 0)])) (.cmp .in_ (.ix (.var 0) (.var 2)) (.gst 3 ['_', '0', '1', '2', '3', '4', '5', '6', '7', '8', '9', 'a', 'b', 'c', 'd', 'e', 'f', 'g', 'h', 'i', 'j', 'k', 'l', 'm', 'n', 'o', 'p', 'q', 'r', 's', 't', 'u', 'v', 'w', 'x', 'y', 'z', 'A', 'B', 'C', 'D', 'E', 'F', 'G', 'H', 'I', 'J', 'K', 'L', 'M', 'N', 'O', 'P', 'Q', 'R', 'S', 'T', 'U', 'V', 'W', 'X', 'Y', 'Z'])))
    [.raise 1 [(.var 1)]]
    [],
  .ret (.tup [(.cst (.str ['n', 'u', 'm', 'b', 'e', 'r'])), (.blt .int [(.var 3)]), (.var 2)])]⟩
abbrev s_read_number : Stmt := top 21
def d_read_number : He.DefD := ⟨("read_number", none), "read_number", "read_number", defArgs s_read_number, defBody s_read_number, defScope s_read_number, [], []⟩
/-- read_word(text, at, after, word) -/
def f_read_word : FI := ⟨2, 4,
  [.set 2 (.cal 14 [(.var 0), (.var 1), (.gst 3 ['_', '0', '1', '2', '3', '4', '5', '6', '7', '8', '9', 'a', 'b', 'c', 'd', 'e', 'f', 'g', 'h', 'i', 'j', 'k', 'l', 'm', 'n', 'o', 'p', 'q', 'r', 's', 't', 'u', 'v', 'w', 'x', 'y', 'z', 'A', 'B', 'C', 'D', 'E', 'F', 'G', 'H', 'I', 'J', 'K', 'L', 'M', 'N', 'O', 'P', 'Q', 'R', 'S', 'T', 'U', 'V', 'W', 'X', 'Y', 'Z'])]),
  .set 3 (.slc (.var 0) [(.var 1)] [(.var 2)]),
  .ife (.cmp .gt (.blt .len [(.var 3)]) (.gni 1 (20)))
    [.raise 1 [(.var 1)]]
    [],
  .ret (.tup [(.ife (.cmp .in_ (.var 3) (.glb 0)) (.cst (.str ['w', 'o', 'r', 'd'])) (.cst (.str ['n', 'a', 'm', 'e']))), (.var 3), (.var 2)])]⟩
abbrev s_read_word : Stmt := top 20
def d_read_word : He.DefD := ⟨("read_word", none), "read_word", "read_word", defArgs s_read_word, defBody s_read_word, defScope s_read_word, [], []⟩
/-- read_token(text, at) -/
def f_read_token : FI := ⟨2, 2,
  [.ife (.cmp .in_ (.ix (.var 0) (.var 1)) (.gst 2 ['a', 'b', 'c', 'd', 'e', 'f', 'g', 'h', 'i', 'j', 'k', 'l', 'm', 'n', 'o', 'p', 'q', 'r', 's', 't', 'u', 'v', 'w', 'x', 'y', 'z', 'A', 'B', 'C', 'D', 'E', 'F', 'G', 'H', 'I', 'J', 'K', 'L', 'M', 'N', 'O', 'P', 'Q', 'R', 'S', 'T', 'U', 'V', 'W', 'X', 'Y', 'Z']))
    [.ret (.cal 12 [(.var 0), (.var 1)])]
    [],
  .ife (.cmp .in_ (.ix (.var 0) (.var 1)) (.gst 1 ['0', '1', '2', '3', '4', '5', '6', '7', '8', '9']))
    [.ret (.cal 11 [(.var 0), (.var 1)])]
    [],
  .ret (.cal 10 [(.var 0), (.var 1)])]⟩
abbrev s_read_token : Stmt := top 19
def d_read_token : He.DefD := ⟨("read_token", none), "read_token", "read_token", defArgs s_read_token, defBody s_read_token, defScope s_read_token, [], []⟩
/-- after_run(text, at, characters) -/
def f_after_run : FI := ⟨3, 3,
  [.whl (.and (.cmp .lt (.var 1) (.blt .len [(.var 0)])) (.cmp .in_ (.ix (.var 0) (.var 1)) (.var 2)))
    [.aug 1 .add (.cst (.int 1))],
  .ret (.var 1)]⟩
abbrev s_after_run : Stmt := top 18
def d_after_run : He.DefD := ⟨("after_run", none), "after_run", "after_run", defArgs s_after_run, defBody s_after_run, defScope s_after_run, [], []⟩
/-- after_comment(text, at, newline) -/
def f_after_comment : FI := ⟨2, 3,
  [.set 2 (.met (.var 0) "find" [(.cst (.str ['\n'])), (.var 1)]),
  .ret (.ife (.cmp .lt (.var 2) (.cst (.int 0))) (.blt .len [(.var 0)]) (.var 2))]⟩
abbrev s_after_comment : Stmt := top 17
def d_after_comment : He.DefD := ⟨("after_comment", none), "after_comment", "after_comment", defArgs s_after_comment, defBody s_after_comment, defScope s_after_comment, [], []⟩
/-- after_blanks(text, at) -/
def f_after_blanks : FI := ⟨2, 2,
  [.whl (.and (.cmp .lt (.var 1) (.blt .len [(.var 0)])) (.or (.cmp .in_ (.ix (.var 0) (.var 1)) (.gst 0 [' ', '\t', '\n'])) (.cmp .eq (.ix (.var 0) (.var 1)) (.cst (.str ['#'])))))
    [.set 1 (.ife (.cmp .eq (.ix (.var 0) (.var 1)) (.cst (.str ['#']))) (.cal 15 [(.var 0), (.var 1)]) (.bin .add (.var 1) (.cst (.int 1))))],
  .ret (.var 1)]⟩
abbrev s_after_blanks : Stmt := top 16
def d_after_blanks : He.DefD := ⟨("after_blanks", none), "after_blanks", "after_blanks", defArgs s_after_blanks, defBody s_after_blanks, defScope s_after_blanks, [], []⟩
/-- tokens(text, found, at, kind, value, after) -/
def f_tokens : FI := ⟨1, 6,
  [.ife (.cmp .gt (.blt .len [(.var 0)]) (.gni 0 (20000)))
    [.raise 2 [(.cst (.str ['t', 'e', 'x', 't']))]]
    [],
  .set 1 (.lst []),
  .set 2 (.cal 16 [(.var 0), (.cst (.int 0))]),
  .whl (.cmp .lt (.var 2) (.blt .len [(.var 0)]))
    [.setT [3, 4, 5] (.cal 13 [(.var 0), (.var 2)]),
    .expr (.met (.var 1) "append" [(.tup [(.var 3), (.var 4), (.var 2)])]),
    .set 2 (.cal 16 [(.var 0), (.var 5)])],
  .ret (.var 1)]⟩
abbrev s_tokens : Stmt := top 15
def d_tokens : He.DefD := ⟨("tokens", none), "tokens", "tokens", defArgs s_tokens, defBody s_tokens, defScope s_tokens, [], []⟩
/-- _law_told(text, e) -/
def f__law_told : FI := ⟨1, 2,
  [.try_ [.expr (.cal 17 [(.var 0)]),
    .ret (.tup [(.cst (.str ['f', 'i', 'n', 'e'])), (.cst (.int 0))])]
    [(1, some 1, [.ret (.tup [(.cst (.str ['m', 'a', 'l', 'f', 'o', 'r', 'm', 'e', 'd'])), (.exf 1 "at")])]), (2, some 1, [.ret (.tup [(.cst (.str ['o', 'v', 'e', 'r', 's', 'i', 'z', 'e', 'd'])), (.exf 1 "limit")])])]]⟩
abbrev s__law_told : Stmt := top 34
def d__law_told : He.DefD := ⟨("_law_told", none), "_law_told", "_law_told", defArgs s__law_told, defBody s__law_told, defScope s__law_told, [], []⟩
/-- law(script, pool, size, due, parts, k, bad, text, told) -/
def f_law : FI := ⟨1, 9,
  [.set 1 (.cal 2 [(.var 0)]),
  .ife (.cmp .eq (.cal 1 [(.var 1), (.cst (.int 40))]) (.cst (.int 0)))
    [.set 2 (.bin .add (.cst (.int 19999)) (.cal 1 [(.var 1), (.cst (.int 4))])),
    .set 3 (.tup [(.cst (.str ['f', 'i', 'n', 'e'])), (.cst (.int 0))]),
    .ife (.cmp .gt (.var 2) (.cst (.int 20000)))
      [.set 3 (.tup [(.cst (.str ['o', 'v', 'e', 'r', 's', 'i', 'z', 'e', 'd'])), (.cst (.str ['t', 'e', 'x', 't']))])]
      [],
    .ret (.cmp .eq (.cal 18 [(.bin .mul (.cst (.str [' '])) (.var 2))]) (.var 3))]
    [],
  .set 4 (.lst []),
  .for_ (.nm 5) .rng1 [(.cal 1 [(.var 1), (.cst (.int 13))])]
    [.expr (.met (.var 4) "append" [(.ix (.lst [(.cal 8 [(.var 1)]), (.blt .str [(.cal 7 [(.var 1)])]), (.cst (.str ['=', '='])), (.cst (.str [';'])), (.cst (.str ['('])), (.cst (.str ['<']))]) (.cal 1 [(.var 1), (.cst (.int 6))]))])],
  .set 6 (.blt .len [(.var 4)]),
  .expr (.met (.var 4) "append" [(.cal 3 [(.var 1)])]),
  .for_ (.nm 5) .rng1 [(.cal 1 [(.var 1), (.cst (.int 3))])]
    [.expr (.met (.var 4) "append" [(.ix (.lst [(.cal 8 [(.var 1)]), (.cst (.str ['!'])), (.cst (.str ['0', '7']))]) (.cal 1 [(.var 1), (.cst (.int 3))]))])],
  .set 7 (.cal 4 [(.var 1), (.var 4)]),
  .set 8 (.cal 18 [(.ix (.var 7) (.cst (.int 0)))]),
  .ret (.and (.cmp .eq (.var 8) (.tup [(.cst (.str ['m', 'a', 'l', 'f', 'o', 'r', 'm', 'e', 'd'])), (.ix (.ix (.var 7) (.cst (.int 1))) (.var 6))])) (.not (.blt .isBool [(.ix (.var 8) (.cst (.int 1)))])))]⟩
abbrev s_law : Stmt := top 35
def d_law : He.DefD := ⟨("law", none), "law", "law", defArgs s_law, defBody s_law, defScope s_law, [], []⟩
abbrev s_xMalformed : Stmt := mth 2 0
def d_xMalformed : He.DefD := ⟨("Malformed", some "__init__"), "__init__", "Malformed.__init__", defArgs s_xMalformed, defBody s_xMalformed, defScope s_xMalformed, [], []⟩
abbrev s_xOversized : Stmt := mth 3 0
def d_xOversized : He.DefD := ⟨("Oversized", some "__init__"), "__init__", "Oversized.__init__", defArgs s_xOversized, defBody s_xOversized, defScope s_xOversized, [], []⟩
def fns : List FI := [f__law_wide, f__law_take, f__law_pool, f__law_bad, f__law_text, f__law_space, f__law_joins, f__law_number, f__law_name, f__law_reserved, f_read_sign, f_read_number, f_read_word, f_read_token, f_after_run, f_after_comment, f_after_blanks, f_tokens, f__law_told, f_law]
def defs : List He.DefD := [d__law_wide, d__law_take, d__law_pool, d__law_bad, d__law_text, d__law_space, d__law_joins, d__law_number, d__law_name, d__law_reserved, d_read_sign, d_read_number, d_read_word, d_read_token, d_after_run, d_after_comment, d_after_blanks, d_tokens, d__law_told, d_law, d_xMalformed, d_xOversized]
def exsI : List ExI := [⟨"Refused", [], 0⟩, ⟨"Malformed", ["at"], 20⟩, ⟨"Oversized", ["limit"], 21⟩]
theorem okx_Malformed : ExOk d_xMalformed ⟨"Malformed", ["at"], 20⟩ ["self", "at"] ["self", "at"] := ⟨rfl, rfl, rfl, ⟨rfl, rfl, rfl, by decide +kernel, rfl, by decide +kernel, by decide +kernel⟩,
  fun _ _ _ _ _ _ us hl => match us, hl with | [_, _], _ => rfl, rfl, rfl, by decide, by decide +kernel⟩
theorem okx_Oversized : ExOk d_xOversized ⟨"Oversized", ["limit"], 21⟩ ["self", "limit"] ["self", "limit"] := ⟨rfl, rfl, rfl, ⟨rfl, rfl, rfl, by decide +kernel, rfl, by decide +kernel, by decide +kernel⟩,
  fun _ _ _ _ _ _ us hl => match us, hl with | [_, _], _ => rfl, rfl, rfl, by decide, by decide +kernel⟩
def clsI : List ClsI := []
def pg : Pg := { fns := fns, names := nmF, cls := clsI, nw := [], snm := [("BLANKS", [' ', '\t', '\n']), ("DIGITS", ['0', '1', '2', '3', '4', '5', '6', '7', '8', '9']), ("LETTERS", ['a', 'b', 'c', 'd', 'e', 'f', 'g', 'h', 'i', 'j', 'k', 'l', 'm', 'n', 'o', 'p', 'q', 'r', 's', 't', 'u', 'v', 'w', 'x', 'y', 'z', 'A', 'B', 'C', 'D', 'E', 'F', 'G', 'H', 'I', 'J', 'K', 'L', 'M', 'N', 'O', 'P', 'Q', 'R', 'S', 'T', 'U', 'V', 'W', 'X', 'Y', 'Z']), ("NAME_CHARACTERS", ['_', '0', '1', '2', '3', '4', '5', '6', '7', '8', '9', 'a', 'b', 'c', 'd', 'e', 'f', 'g', 'h', 'i', 'j', 'k', 'l', 'm', 'n', 'o', 'p', 'q', 'r', 's', 't', 'u', 'v', 'w', 'x', 'y', 'z', 'A', 'B', 'C', 'D', 'E', 'F', 'G', 'H', 'I', 'J', 'K', 'L', 'M', 'N', 'O', 'P', 'Q', 'R', 'S', 'T', 'U', 'V', 'W', 'X', 'Y', 'Z'])], nums := [("LONGEST_TEXT", 20000), ("LONGEST_NAME", 20), ("LARGEST_NUMBER", 65535), ("MOST_DIGITS", 5)], exs := exsI, cons := [("RESERVED", [(.str ['a', 'c', 't', 'o', 'r']), (.str ['a', 'n', 'd']), (.str ['b', 'e', 'c', 'o', 'm', 'e']), (.str ['b', 'o', 'o', 'l']), (.str ['c', 'l', 'o', 's', 'e']), (.str ['d', 'o', 'n', 'e']), (.str ['d', 'r', 'o', 'p']), (.str ['e', 'l', 's', 'e']), (.str ['e', 'n', 'd']), (.str ['f', 'a', 'i', 'l']), (.str ['f', 'a', 'l', 'l']), (.str ['f', 'a', 'l', 's', 'e']), (.str ['h', 'e', 'a', 'r']), (.str ['i', 'f']), (.str ['i', 'n', 't']), (.str ['l', 'e', 't']), (.str ['n', 'o', 't']), (.str ['o', 'p', 'e', 'n']), (.str ['o', 'r']), (.str ['s', 'a', 'y']), (.str ['t', 'a', 'l', 'k']), (.str ['t', 'r', 'u', 'e'])]), ("SIGNS", [(.str ['=', '=']), (.str ['<', '=']), (.str ['=']), (.str ['<']), (.str ['+']), (.str ['-']), (.str ['*']), (.str ['~']), (.str ['.']), (.str [',']), (.str [':']), (.str [';']), (.str ['(']), (.str [')']), (.str ['{']), (.str ['}'])])], isa := fun c k => decide ((c, k) ∈ [(0, 0), (1, 1), (1, 0), (2, 2), (2, 0)]) }
theorem ok__law_wide : DefOk pg.ck d__law_wide f__law_wide ("_law_wide", none) ["script", "k", "cell", "mixed"] ["script", "k"] := ⟨rfl, rfl, rfl, ⟨rfl, rfl, rfl, by decide +kernel, rfl, by decide +kernel, by decide +kernel⟩,
  fun _ _ _ _ _ _ us hl => match us, hl with | [_, _], _ => rfl, rfl, rfl, by decide +kernel⟩
theorem ok__law_take : DefOk pg.ck d__law_take f__law_take ("_law_take", none) ["pool", "most", "value"] ["pool", "most"] := ⟨rfl, rfl, rfl, ⟨rfl, rfl, rfl, by decide +kernel, rfl, by decide +kernel, by decide +kernel⟩,
  fun _ _ _ _ _ _ us hl => match us, hl with | [_, _], _ => rfl, rfl, rfl, by decide +kernel⟩
theorem ok__law_pool : DefOk pg.ck d__law_pool f__law_pool ("_law_pool", none) ["script"] ["script"] := ⟨rfl, rfl, rfl, ⟨rfl, rfl, rfl, by decide +kernel, rfl, by decide +kernel, by decide +kernel⟩,
  fun _ _ _ _ _ _ us hl => match us, hl with | [_], _ => rfl, rfl, rfl, by decide +kernel⟩
theorem ok__law_bad : DefOk pg.ck d__law_bad f__law_bad ("_law_bad", none) ["pool", "choice"] ["pool"] := ⟨rfl, rfl, rfl, ⟨rfl, rfl, rfl, by decide +kernel, rfl, by decide +kernel, by decide +kernel⟩,
  fun _ _ _ _ _ _ us hl => match us, hl with | [_], _ => rfl, rfl, rfl, by decide +kernel⟩
theorem ok__law_text : DefOk pg.ck d__law_text f__law_text ("_law_text", none) ["pool", "parts", "text", "places", "k"] ["pool", "parts"] := ⟨rfl, rfl, rfl, ⟨rfl, rfl, rfl, by decide +kernel, rfl, by decide +kernel, by decide +kernel⟩,
  fun _ _ _ _ _ _ us hl => match us, hl with | [_, _], _ => rfl, rfl, rfl, by decide +kernel⟩
theorem ok__law_space : DefOk pg.ck d__law_space f__law_space ("_law_space", none) ["pool", "needed", "spaces", "space"] ["pool", "needed"] := ⟨rfl, rfl, rfl, ⟨rfl, rfl, rfl, by decide +kernel, rfl, by decide +kernel, by decide +kernel⟩,
  fun _ _ _ _ _ _ us hl => match us, hl with | [_, _], _ => rfl, rfl, rfl, by decide +kernel⟩
theorem ok__law_joins : DefOk pg.ck d__law_joins f__law_joins ("_law_joins", none) ["left", "right", "one", "two"] ["left", "right"] := ⟨rfl, rfl, rfl, ⟨rfl, rfl, rfl, by decide +kernel, rfl, by decide +kernel, by decide +kernel⟩,
  fun _ _ _ _ _ _ us hl => match us, hl with | [_, _], _ => rfl, rfl, rfl, by decide +kernel⟩
theorem ok__law_number : DefOk pg.ck d__law_number f__law_number ("_law_number", none) ["pool"] ["pool"] := ⟨rfl, rfl, rfl, ⟨rfl, rfl, rfl, by decide +kernel, rfl, by decide +kernel, by decide +kernel⟩,
  fun _ _ _ _ _ _ us hl => match us, hl with | [_], _ => rfl, rfl, rfl, by decide +kernel⟩
theorem ok__law_name : DefOk pg.ck d__law_name f__law_name ("_law_name", none) ["pool", "letters", "name", "k"] ["pool"] := ⟨rfl, rfl, rfl, ⟨rfl, rfl, rfl, by decide +kernel, rfl, by decide +kernel, by decide +kernel⟩,
  fun _ _ _ _ _ _ us hl => match us, hl with | [_], _ => rfl, rfl, rfl, by decide +kernel⟩
theorem ok__law_reserved : DefOk pg.ck d__law_reserved f__law_reserved ("_law_reserved", none) ["first"] [] := ⟨rfl, rfl, rfl, ⟨rfl, rfl, rfl, by decide +kernel, rfl, by decide +kernel, by decide +kernel⟩,
  fun _ _ _ _ _ _ us hl => match us, hl with | [], _ => rfl, rfl, rfl, by decide +kernel⟩
theorem ok_read_sign : DefOk pg.ck d_read_sign f_read_sign ("read_sign", none) ["text", "at", "sign"] ["text", "at"] := ⟨rfl, rfl, rfl, ⟨rfl, rfl, rfl, by decide +kernel, rfl, by decide +kernel, by decide +kernel⟩,
  fun _ _ _ _ _ _ us hl => match us, hl with | [_, _], _ => rfl, rfl, rfl, by decide +kernel⟩
theorem ok_read_number : DefOk pg.ck d_read_number f_read_number ("read_number", none) ["text", "at", "after", "digits"] ["text", "at"] := ⟨rfl, rfl, rfl, ⟨rfl, rfl, rfl, by decide +kernel, rfl, by decide +kernel, by decide +kernel⟩,
  fun _ _ _ _ _ _ us hl => match us, hl with | [_, _], _ => rfl, rfl, rfl, by decide +kernel⟩
theorem ok_read_word : DefOk pg.ck d_read_word f_read_word ("read_word", none) ["text", "at", "after", "word"] ["text", "at"] := ⟨rfl, rfl, rfl, ⟨rfl, rfl, rfl, by decide +kernel, rfl, by decide +kernel, by decide +kernel⟩,
  fun _ _ _ _ _ _ us hl => match us, hl with | [_, _], _ => rfl, rfl, rfl, by decide +kernel⟩
theorem ok_read_token : DefOk pg.ck d_read_token f_read_token ("read_token", none) ["text", "at"] ["text", "at"] := ⟨rfl, rfl, rfl, ⟨rfl, rfl, rfl, by decide +kernel, rfl, by decide +kernel, by decide +kernel⟩,
  fun _ _ _ _ _ _ us hl => match us, hl with | [_, _], _ => rfl, rfl, rfl, by decide +kernel⟩
theorem ok_after_run : DefOk pg.ck d_after_run f_after_run ("after_run", none) ["text", "at", "characters"] ["text", "at", "characters"] := ⟨rfl, rfl, rfl, ⟨rfl, rfl, rfl, by decide +kernel, rfl, by decide +kernel, by decide +kernel⟩,
  fun _ _ _ _ _ _ us hl => match us, hl with | [_, _, _], _ => rfl, rfl, rfl, by decide +kernel⟩
theorem ok_after_comment : DefOk pg.ck d_after_comment f_after_comment ("after_comment", none) ["text", "at", "newline"] ["text", "at"] := ⟨rfl, rfl, rfl, ⟨rfl, rfl, rfl, by decide +kernel, rfl, by decide +kernel, by decide +kernel⟩,
  fun _ _ _ _ _ _ us hl => match us, hl with | [_, _], _ => rfl, rfl, rfl, by decide +kernel⟩
theorem ok_after_blanks : DefOk pg.ck d_after_blanks f_after_blanks ("after_blanks", none) ["text", "at"] ["text", "at"] := ⟨rfl, rfl, rfl, ⟨rfl, rfl, rfl, by decide +kernel, rfl, by decide +kernel, by decide +kernel⟩,
  fun _ _ _ _ _ _ us hl => match us, hl with | [_, _], _ => rfl, rfl, rfl, by decide +kernel⟩
theorem ok_tokens : DefOk pg.ck d_tokens f_tokens ("tokens", none) ["text", "found", "at", "kind", "value", "after"] ["text"] := ⟨rfl, rfl, rfl, ⟨rfl, rfl, rfl, by decide +kernel, rfl, by decide +kernel, by decide +kernel⟩,
  fun _ _ _ _ _ _ us hl => match us, hl with | [_], _ => rfl, rfl, rfl, by decide +kernel⟩
theorem ok__law_told : DefOk pg.ck d__law_told f__law_told ("_law_told", none) ["text", "e"] ["text"] := ⟨rfl, rfl, rfl, ⟨rfl, rfl, rfl, by decide +kernel, rfl, by decide +kernel, by decide +kernel⟩,
  fun _ _ _ _ _ _ us hl => match us, hl with | [_], _ => rfl, rfl, rfl, by decide +kernel⟩
theorem ok_law : DefOk pg.ck d_law f_law ("law", none) ["script", "pool", "size", "due", "parts", "k", "bad", "text", "told"] ["script"] := ⟨rfl, rfl, rfl, ⟨rfl, rfl, rfl, by decide +kernel, rfl, by decide +kernel, by decide +kernel⟩,
  fun _ _ _ _ _ _ us hl => match us, hl with | [_], _ => rfl, rfl, rfl, by decide +kernel⟩
theorem oks : ∀ (f : Nat) (x : Str), pg.names[f]? = some x → ∃ (fi : FI) (d : He.DefD) (N ps : List Str), pg.fns[f]? = some fi ∧ defs[f]? = some d ∧ DefOk pg.ck d fi (x, none) N ps
  | 0, _, e => by cases e; exact ⟨_, _, _, _, rfl, rfl, ok__law_wide⟩
  | 1, _, e => by cases e; exact ⟨_, _, _, _, rfl, rfl, ok__law_take⟩
  | 2, _, e => by cases e; exact ⟨_, _, _, _, rfl, rfl, ok__law_pool⟩
  | 3, _, e => by cases e; exact ⟨_, _, _, _, rfl, rfl, ok__law_bad⟩
  | 4, _, e => by cases e; exact ⟨_, _, _, _, rfl, rfl, ok__law_text⟩
  | 5, _, e => by cases e; exact ⟨_, _, _, _, rfl, rfl, ok__law_space⟩
  | 6, _, e => by cases e; exact ⟨_, _, _, _, rfl, rfl, ok__law_joins⟩
  | 7, _, e => by cases e; exact ⟨_, _, _, _, rfl, rfl, ok__law_number⟩
  | 8, _, e => by cases e; exact ⟨_, _, _, _, rfl, rfl, ok__law_name⟩
  | 9, _, e => by cases e; exact ⟨_, _, _, _, rfl, rfl, ok__law_reserved⟩
  | 10, _, e => by cases e; exact ⟨_, _, _, _, rfl, rfl, ok_read_sign⟩
  | 11, _, e => by cases e; exact ⟨_, _, _, _, rfl, rfl, ok_read_number⟩
  | 12, _, e => by cases e; exact ⟨_, _, _, _, rfl, rfl, ok_read_word⟩
  | 13, _, e => by cases e; exact ⟨_, _, _, _, rfl, rfl, ok_read_token⟩
  | 14, _, e => by cases e; exact ⟨_, _, _, _, rfl, rfl, ok_after_run⟩
  | 15, _, e => by cases e; exact ⟨_, _, _, _, rfl, rfl, ok_after_comment⟩
  | 16, _, e => by cases e; exact ⟨_, _, _, _, rfl, rfl, ok_after_blanks⟩
  | 17, _, e => by cases e; exact ⟨_, _, _, _, rfl, rfl, ok_tokens⟩
  | 18, _, e => by cases e; exact ⟨_, _, _, _, rfl, rfl, ok__law_told⟩
  | 19, _, e => by cases e; exact ⟨_, _, _, _, rfl, rfl, ok_law⟩
  | _ + 20, _, e => by simp [pg, nmF] at e
theorem okp : pg.Ok defs := by
  refine ⟨oks, fun c k e q hq => ?_, fun c k e f hf => ?_, fun c hc => ?_, fun e he hf => ?_⟩
  · simp [pg, clsI] at e
  · simp [pg, clsI] at e
  · simp [pg] at hc
  · simp only [pg, exsI, List.mem_cons, List.not_mem_nil, or_false] at he
    rcases he with rfl | rfl | rfl
    · exact absurd rfl hf
    · exact ⟨_, _, _, rfl, okx_Malformed⟩
    · exact ⟨_, _, _, rfl, okx_Oversized⟩
abbrev nCon : Nat := 2
abbrev nLaw : Nat := 19
abbrev iLaw : Nat := 35
abbrev loose : List Str := [("_law_wide" : Str), ("_law_take" : Str), ("_law_pool" : Str), ("_law_bad" : Str), ("_law_text" : Str), ("_law_space" : Str), ("_law_joins" : Str), ("_law_number" : Str), ("_law_name" : Str), ("_law_reserved" : Str), ("read_sign" : Str), ("read_number" : Str), ("read_word" : Str), ("read_token" : Str), ("after_run" : Str), ("after_comment" : Str), ("after_blanks" : Str), ("tokens" : Str), ("_law_told" : Str), ("Refused" : Str), ("Malformed" : Str), ("Oversized" : Str), ("BLANKS" : Str), ("DIGITS" : Str), ("LETTERS" : Str), ("NAME_CHARACTERS" : Str), ("RESERVED" : Str), ("SIGNS" : Str), ("LONGEST_TEXT" : Str), ("LONGEST_NAME" : Str), ("LARGEST_NUMBER" : Str), ("MOST_DIGITS" : Str)]
end K01
end

section
namespace K01
open PySem PySem.Spec PyProof.Rows L2 Rf
def Has (W : Wd) : Prop := ∀ i fi, i < 100 → fns[i]? = some fi → W.fns[i]? = some fi
theorem wide_ok {W : Wd} (hW : Has W) (L n q : Nat) (ns : List Int) (k : Int) (hk : 0 ≤ k) (h : Hs) (hq : h[q]? = some (.lst (ns.map D.int))) : ∃ v : Int, callF W L (n + 1) 0 [.ob q, .int k] h = .ok (.int v) h := by
  rw [callF_s (hW 0 _ (by decide) rfl) rfl]
  by_cases hlt : k < ns.length
  · obtain ⟨x, hx, e⟩ := atI_some (xs := ns.map D.int) hk (by simpa using hlt)
    obtain ⟨c, _, rfl⟩ := List.mem_map.mp hx
    simp [q_set, q_put, q_expr, q_ret, q_retN, q_ife, q_cons, q_nil, q_cst, q_bin, q_neg, q_cmp, q_and, q_or, q_not, q_eife, q_tup, q_lst, q_dic, q_ix, q_slc, q_cal, q_blt, q_enil, q_econs, q_met, r_for, r_lc, r_var, r_ix_ob, r_sl_ob, r_put_ob, r_len_ob, r_tup_ob, r_lst_ob, r_addl, r_app, r_it_ob, r_in_ob, r_nin_ob, optI, Rf.start, f__law_wide, hq, hlt, e]
    split <;> split <;> simp [q_set, q_put, q_expr, q_ret, q_retN, q_ife, q_cons, q_nil, q_cst, q_bin, q_neg, q_cmp, q_and, q_or, q_not, q_eife, q_tup, q_lst, q_dic, q_ix, q_slc, q_cal, q_blt, q_enil, q_econs, q_met, r_for, r_lc, r_var, r_ix_ob, r_sl_ob, r_put_ob, r_len_ob, r_tup_ob, r_lst_ob, r_addl, r_app, r_it_ob, r_in_ob, r_nin_ob, optI, Rf.start, f__law_wide]
  · simp [q_set, q_put, q_expr, q_ret, q_retN, q_ife, q_cons, q_nil, q_cst, q_bin, q_neg, q_cmp, q_and, q_or, q_not, q_eife, q_tup, q_lst, q_dic, q_ix, q_slc, q_cal, q_blt, q_enil, q_econs, q_met, r_for, r_lc, r_var, r_ix_ob, r_sl_ob, r_put_ob, r_len_ob, r_tup_ob, r_lst_ob, r_addl, r_app, r_it_ob, r_in_ob, r_nin_ob, optI, Rf.start, f__law_wide, hq, hlt]
/-- the pool at p, its numbers at q -/
def PO (p q : Nat) (ns : List Int) (h : Hs) : Prop := p ≠ q ∧ ∃ a k : Int, -1 ≤ k ∧ h[p]? = some (.lst [.int a, .ob q, .int k]) ∧ h[q]? = some (.lst (ns.map D.int))
/-- what stands stays, the pool aside -/
def Kp (p : Nat) (h h' : Hs) : Prop := h.length ≤ h'.length ∧ ∀ i mo, i ≠ p → h[i]? = some mo → h'[i]? = some mo
theorem Kp.refl {p h} : Kp p h h := ⟨Nat.le_refl _, fun _ _ _ e => e⟩
theorem Kp.trans {p h h1 h2} (a : Kp p h h1) (b : Kp p h1 h2) : Kp p h h2 := ⟨Nat.le_trans a.1 b.1, fun i mo hi e => b.2 i mo hi (a.2 i mo hi e)⟩
theorem Kp.set {p h o} : Kp p h (h.set p o) := ⟨by simp, fun i mo hi e => by rw [List.getElem?_set_ne (Ne.symm hi)]; exact e⟩
theorem Kp.app {p h t} : Kp p h (h ++ t) := ⟨by simp, fun i mo hi e => lk_app e⟩
theorem PO.app {p q ns h t} (P : PO p q ns h) : PO p q ns (h ++ t) := by
  obtain ⟨h0, a, k, h1, h2, h3⟩ := P
  exact ⟨h0, a, k, h1, lk_app h2, lk_app h3⟩
theorem PO.lt {p q ns h} (P : PO p q ns h) : p < h.length := by
  obtain ⟨h0, a, k, h1, h2, h3⟩ := P
  exact lk_lt h2
theorem take_ok {W : Wd} (hW : Has W) (L n p q : Nat) (ns : List Int) (m : Int) (hm : 0 < m) (hm2 : m < 1073741824) (h : Hs) (P : PO p q ns h) :
    ∃ (v : Int) (h' : Hs), callF W L (n + 2) 1 [.ob p, .int m] h = .ok (.int v) h' ∧ 0 ≤ v ∧ v < m ∧ PO p q ns h' ∧ Kp p h h' := by
  obtain ⟨hpq, a, k, hk, hp, hq⟩ := P
  have hlp := lk_lt hp
  have hs : ∀ (h : Hs) o, p < h.length → (h.set p o)[p]? = some o := fun h o hl => by simp [hl]
  have hs : ∀ o, (h.set p o)[p]? = some o := fun o => hs h o hlp
  have fin : ∀ (a k : Int) (h1 : Hs), -1 ≤ k → h1[p]? = some (.lst [.int a, .ob q, .int k]) → h1[q]? = some (.lst (ns.map D.int)) → Kp p h h1 →
      ∃ (v : Int) (h' : Hs), (evalB W L (callF W L (n + 1)) none (f__law_take.body.drop 1) [some (.ob p), some (.int m), none] h1).fin = .ok (.int v) h' ∧ 0 ≤ v ∧ v < m ∧ PO p q ns h' ∧ Kp p h h' := by
    intro a k h1 hk hp hq kp
    have hl1 := lk_lt hp
    have hm0 : m ≠ 0 := by omega
    have hm3 : m.natAbs < 1073741824 := by omega
    refine ⟨a.fmod m, h1.set p (.lst [.int (a.fdiv m), .ob q, .int k]), ?_, Int.fmod_nonneg_of_pos _ hm, Int.fmod_lt_of_pos _ hm, ⟨hpq, a.fdiv m, k, hk, by simp [hl1], by rw [List.getElem?_set_ne hpq]; exact hq⟩, kp.trans Kp.set⟩
    simp [q_set, q_put, q_expr, q_ret, q_retN, q_ife, q_cons, q_nil, q_cst, q_bin, q_neg, q_cmp, q_and, q_or, q_not, q_eife, q_tup, q_lst, q_dic, q_ix, q_slc, q_cal, q_blt, q_enil, q_econs, q_met, r_for, r_lc, r_var, r_ix_ob, r_sl_ob, r_put_ob, r_len_ob, r_tup_ob, r_lst_ob, r_addl, r_app, r_it_ob, r_in_ob, r_nin_ob, optI, Rf.start, f__law_take, hp, atI, ixN, hm0, hm3]
  rw [callF_s (hW 1 _ (by decide) rfl) rfl]
  by_cases ha : a < 1000
  · obtain ⟨v, ev1⟩ := wide_ok hW L n q ns (k + 1) (by omega) (h.set p (.lst [.int a, .ob q, .int (k + 1)])) (by rw [List.getElem?_set_ne hpq]; exact hq)
    have := fin v (k + 1) ((h.set p (.lst [.int a, .ob q, .int (k + 1)])).set p (.lst [.int v, .ob q, .int (k + 1)])) (by omega) (by simp [hlp]) (by rw [List.getElem?_set_ne hpq, List.getElem?_set_ne hpq]; exact hq) (Kp.set.trans Kp.set)
    obtain ⟨v', h', e, r⟩ := this
    refine ⟨v', h', ?_, r⟩
    rw [← e]
    simp [q_set, q_put, q_expr, q_ret, q_retN, q_ife, q_cons, q_nil, q_cst, q_bin, q_neg, q_cmp, q_and, q_or, q_not, q_eife, q_tup, q_lst, q_dic, q_ix, q_slc, q_cal, q_blt, q_enil, q_econs, q_met, r_for, r_lc, r_var, r_ix_ob, r_sl_ob, r_put_ob, r_len_ob, r_tup_ob, r_lst_ob, r_addl, r_app, r_it_ob, r_in_ob, r_nin_ob, optI, Rf.start, f__law_take, hp, atI, ixN, ha, ev1, hs]
  · obtain ⟨v', h', e, r⟩ := fin a k h hk hp hq Kp.refl
    refine ⟨v', h', ?_, r⟩
    rw [← e]
    simp [q_set, q_put, q_expr, q_ret, q_retN, q_ife, q_cons, q_nil, q_cst, q_bin, q_neg, q_cmp, q_and, q_or, q_not, q_eife, q_tup, q_lst, q_dic, q_ix, q_slc, q_cal, q_blt, q_enil, q_econs, q_met, r_for, r_lc, r_var, r_ix_ob, r_sl_ob, r_put_ob, r_len_ob, r_tup_ob, r_lst_ob, r_addl, r_app, r_it_ob, r_in_ob, r_nin_ob, optI, Rf.start, f__law_take, hp, atI, ixN, ha]
end K01
end

section
namespace K01
open PySem PySem.Spec PyProof.Rows L2 Rf
abbrev LC := List Char
/-! ### texts as lists -/
theorem map_inj : ∀ {a b : LC}, a.map Char.toNat = b.map Char.toNat → a = b
  | [], [], _ => rfl
  | [], _ :: _, e => by simp at e
  | _ :: _, [], e => by simp at e
  | x :: a, y :: b, e => by
    simp only [List.map_cons, List.cons.injEq] at e
    have : x = y := by
      apply Char.ext
      apply UInt32.toNat_inj.mp
      exact e.1
    rw [this, map_inj e.2]
theorem subAt_st (s p : LC) (i : Nat) : Builtin.Str.subAt (st s) (st p) i = decide ((s.drop i).take p.length = p) := by
  unfold Builtin.Str.subAt
  have hl : (st p).length = p.length := by simp [Rf.st, Str.length]
  rw [hl]
  have e : (st s).cps.extract i (i + p.length) = (((s.drop i).take p.length).map Char.toNat).toArray := by
    show (s.map Char.toNat).toArray.extract i (i + p.length) = _
    rw [List.extract_toArray, List.extract_eq_take_drop]
    simp [List.map_drop, List.map_take]
  rw [e]
  show ((((s.drop i).take p.length).map Char.toNat).toArray == (p.map Char.toNat).toArray) = _
  by_cases h : (s.drop i).take p.length = p
  · rw [h, decide_eq_true rfl]; simp
  · rw [decide_eq_false h, beq_eq_false_iff_ne]
    intro q
    apply h
    apply map_inj
    simpa using q
theorem from_nat (n i : Nat) : fromIndex n (i : Int) = i := by
  unfold fromIndex
  rw [if_neg (by omega)]
  omega
theorem sw_at (pre rest p : LC) : Txt.startswith3 (st (pre ++ rest)) (st p) (pre.length : Int) = decide (rest.take p.length = p) := by
  unfold Txt.startswith3
  rw [from_nat, subAt_st]
  have hl : (st p).length = p.length := by simp [Rf.st, Str.length]
  have hs : (st (pre ++ rest)).length = pre.length + rest.length := by simp [Rf.st, Str.length]
  rw [hl, hs]
  simp only [List.drop_left]
  by_cases h : rest.take p.length = p
  · have := congrArg List.length h
    rw [List.length_take] at this
    rw [decide_eq_true h, Bool.and_true, decide_eq_true_eq]; omega
  · rw [decide_eq_false h, Bool.and_false]
theorem find_nl (pre b c : LC) (hb : '\n' ∉ b) : Txt.find3 (st (pre ++ (b ++ '\n' :: c))) (st ['\n']) (pre.length : Int) = ((pre.length + b.length : Nat) : Int) := by
  unfold Txt.find3
  rw [from_nat, StrLaws.occ_eq]
  obtain ⟨s, hs⟩ : ∃ s, s = pre ++ (b ++ '\n' :: c) := ⟨_, rfl⟩
  rw [← hs]
  have hl : (st s).length = pre.length + b.length + 1 + c.length := by rw [hs]; simp [Rf.st, Str.length]; omega
  have at_ : ∀ i, StrLaws.At (st s) (st ['\n']) (st s).length i ↔ s[i]? = some '\n' := by
    intro i
    unfold StrLaws.At
    rw [subAt_st]
    have h1 : (st ['\n']).length = 1 := rfl
    have h2 : (st s).length = s.length := by simp [Rf.st, Str.length]
    rw [h1, h2, decide_eq_true_eq]
    constructor
    · rintro ⟨_, e⟩
      have := congrArg (fun l => l[0]?) e
      simpa using this
    · intro e
      obtain ⟨hi, e2⟩ := List.getElem?_eq_some_iff.mp e
      refine ⟨by omega, ?_⟩
      rw [List.drop_eq_getElem_cons hi]
      simp [e2]
  have hit : s[pre.length + b.length]? = some '\n' := by
    rw [hs, List.getElem?_append_right (by omega), List.getElem?_append_right (by omega)]
    simp
  have no : ∀ i, pre.length ≤ i → i < pre.length + b.length → ¬ s[i]? = some '\n' := by
    intro i h1 h2 e
    rw [hs, List.getElem?_append_right h1, List.getElem?_append_left (by omega)] at e
    exact hb (List.mem_of_getElem? e)
  rcases StrLaws.occ_first (st s) (st ['\n']) (st s).length 1 (Nat.le_refl _) (List.range' pre.length ((st s).length + 1 - pre.length)) pre.length (fun i hi => (List.mem_range'_1.mp hi).1) with ⟨_, hn⟩ | ⟨p', a, post, e, h0, ha, hn⟩
  · exact absurd ((at_ _).mpr hit) (hn _ (List.mem_range'_1.mpr ⟨by omega, by omega⟩))
  · have am : a ∈ List.range' pre.length ((st s).length + 1 - pre.length) := by rw [e]; simp
    have a1 := (List.mem_range'_1.mp am).1
    have ea : a = pre.length + b.length := by
      have h1 : ¬ a < pre.length + b.length := fun q => no a a1 q ((at_ a).mp ha)
      have h2 : ¬ pre.length + b.length < a := by
        intro q
        have km : pre.length + b.length ∈ List.range' pre.length ((st s).length + 1 - pre.length) := List.mem_range'_1.mpr ⟨by omega, by omega⟩
        have pw := List.pairwise_lt_range' (s := pre.length) (n := (st s).length + 1 - pre.length) (step := 1)
        rw [e] at km pw
        rcases List.mem_append.mp km with km | km
        · exact hn _ km ((at_ _).mpr hit)
        · rcases List.mem_cons.mp km with km | km
          · omega
          · have := (List.pairwise_cons.mp (List.pairwise_append.mp pw).2.1).1 _ km
            omega
      omega
    generalize (forIn (List.range' pre.length ((st s).length + 1 - pre.length)) ((#[] : Array Nat), pre.length) (StrLaws.occBody (st s) (st ['\n']) (st s).length 1)).run.fst = arr at h0
    have h1 : arr.toList[0]? = some a := by simpa using h0
    cases hL : arr.toList with
    | nil => rw [hL] at h1; cases h1
    | cons x r =>
      rw [hL] at h1
      simp only [List.getElem?_cons_zero, Option.some.injEq] at h1
      show ((x : Nat) : Int) = _
      rw [h1, ea]
/-! ### running over a text -/
section
variable {cs : List (List D)} {h : Hs}
theorem ix_at {s pre r : LC} {c : Char} (hs : s = pre ++ c :: r) (hl : s.length ≤ 20000) : ixD cs (.str s) (.int (pre.length : Int)) h = .ok (.str [c]) h := by
  have h1 : pre.length < s.length := by rw [hs]; simp
  have h2 : s[pre.length] = c := by simp [hs]
  simp only [ixD]
  rw [if_pos (by simp only [sizeLine]; omega), atI_nat h1, h2]
  rfl
theorem in_str {c : Char} {z : LC} : cmpA cs .in_ (.str [c]) (.str z) h = .ok (.bl (z.contains c)) h := rfl
theorem r_whl {W : Wd} {L : Nat} {cf : CF} {σ : Sg} {h : Hs} {c : E} {b : List S} : evalS W L cf none (.whl c b) σ h = whileI (fun σ h => (evalE W cf none c σ h).bind fun x h => truthR x h) (evalB W L cf none b) L σ h := by simp only [evalS] <;> rfl
end
def hd? (t : LC) (p : Char → Bool) : Bool := match t with | [] => false | c :: _ => p c
abbrev DIG : LC := ['0', '1', '2', '3', '4', '5', '6', '7', '8', '9']
abbrev LET : LC := ['a', 'b', 'c', 'd', 'e', 'f', 'g', 'h', 'i', 'j', 'k', 'l', 'm', 'n', 'o', 'p', 'q', 'r', 's', 't', 'u', 'v', 'w', 'x', 'y', 'z', 'A', 'B', 'C', 'D', 'E', 'F', 'G', 'H', 'I', 'J', 'K', 'L', 'M', 'N', 'O', 'P', 'Q', 'R', 'S', 'T', 'U', 'V', 'W', 'X', 'Y', 'Z']
abbrev NCH : LC := ['_', '0', '1', '2', '3', '4', '5', '6', '7', '8', '9', 'a', 'b', 'c', 'd', 'e', 'f', 'g', 'h', 'i', 'j', 'k', 'l', 'm', 'n', 'o', 'p', 'q', 'r', 's', 't', 'u', 'v', 'w', 'x', 'y', 'z', 'A', 'B', 'C', 'D', 'E', 'F', 'G', 'H', 'I', 'J', 'K', 'L', 'M', 'N', 'O', 'P', 'Q', 'R', 'S', 'T', 'U', 'V', 'W', 'X', 'Y', 'Z']
abbrev BLK : LC := [' ', '\t', '\n']
variable {W : Wd} (hW : Has W) (L : Nat)
include hW
abbrev condR : E := .and (.cmp .lt (.var 1) (.blt .len [(.var 0)])) (.cmp .in_ (.ix (.var 0) (.var 1)) (.var 2))
abbrev bodyR : List S := [.aug 1 .add (.cst (.int 1))]
theorem run_loop (M : Nat) (z : LC) : ∀ (w pre tail s : LC) (Lf : Nat) (h : Hs), w.length < Lf → s = pre ++ (w ++ tail) → s.length ≤ 20000 → (∀ c ∈ w, z.contains c = true) → hd? tail z.contains = false →
    whileI (fun σ h => (evalE W (callF W L M) none condR σ h).bind fun x h => truthR x h) (evalB W L (callF W L M) none bodyR) Lf [some (.str s), some (.int (pre.length : Int)), some (.str z)] h = .ok (.nx [some (.str s), some (.int ((pre.length + w.length : Nat) : Int)), some (.str z)]) h
  | [], pre, tail, s, Lf, h, hL, hs, hl, hw, ht => by
    obtain ⟨l, rfl⟩ : ∃ l, Lf = l + 1 := ⟨Lf - 1, by simp at hL; omega⟩
    have hl2 : s.length ≤ 16777216 := by omega
    have ec : (evalE W (callF W L M) none condR [some (.str s), some (.int (pre.length : Int)), some (.str z)] h).bind (fun x h => truthR x h) = .ok false h := by
      cases tail with
      | nil =>
        have : ¬ (pre.length : Int) < (s.length : Int) := by rw [hs]; simp
        simp [q_set, q_put, q_expr, q_ret, q_retN, q_ife, q_cons, q_nil, q_cst, q_bin, q_neg, q_cmp, q_and, q_or, q_not, q_eife, q_tup, q_lst, q_dic, q_ix, q_slc, q_cal, q_blt, q_enil, q_econs, q_met, q_raise, q_gst, q_gni, q_glb, r_for, r_lc, r_var, r_ix_ob, r_sl_ob, r_put_ob, r_len_ob, r_tup_ob, r_lst_ob, r_addl, r_app, r_it_ob, r_in_ob, r_nin_ob, optI, Rf.start, hl2, this, sizeLine]
      | cons c r =>
        have hlt : (pre.length : Int) < (s.length : Int) := by rw [hs]; simp; omega
        have ht' : z.contains c = false := ht
        simp [q_set, q_put, q_expr, q_ret, q_retN, q_ife, q_cons, q_nil, q_cst, q_bin, q_neg, q_cmp, q_and, q_or, q_not, q_eife, q_tup, q_lst, q_dic, q_ix, q_slc, q_cal, q_blt, q_enil, q_econs, q_met, q_raise, q_gst, q_gni, q_glb, r_for, r_lc, r_var, r_ix_ob, r_sl_ob, r_put_ob, r_len_ob, r_tup_ob, r_lst_ob, r_addl, r_app, r_it_ob, r_in_ob, r_nin_ob, optI, Rf.start, hl2, hlt, ix_at (r := r) (c := c) (by simpa using hs) hl, in_str, sizeLine]
        simpa using ht'
    unfold whileI
    rw [ec, R.stm_ok]
    simp
  | c :: w, pre, tail, s, Lf, h, hL, hs, hl, hw, ht => by
    obtain ⟨l, rfl⟩ : ∃ l, Lf = l + 1 := ⟨Lf - 1, by simp at hL; omega⟩
    have hl2 : s.length ≤ 16777216 := by omega
    have hlt : (pre.length : Int) < (s.length : Int) := by rw [hs]; simp; omega
    have hc : z.contains c = true := hw c List.mem_cons_self
    have ec : (evalE W (callF W L M) none condR [some (.str s), some (.int (pre.length : Int)), some (.str z)] h).bind (fun x h => truthR x h) = .ok true h := by
      simp [q_set, q_put, q_expr, q_ret, q_retN, q_ife, q_cons, q_nil, q_cst, q_bin, q_neg, q_cmp, q_and, q_or, q_not, q_eife, q_tup, q_lst, q_dic, q_ix, q_slc, q_cal, q_blt, q_enil, q_econs, q_met, q_raise, q_gst, q_gni, q_glb, r_for, r_lc, r_var, r_ix_ob, r_sl_ob, r_put_ob, r_len_ob, r_tup_ob, r_lst_ob, r_addl, r_app, r_it_ob, r_in_ob, r_nin_ob, optI, Rf.start, hl2, hlt, ix_at (r := w ++ tail) (c := c) (by simpa using hs) hl, in_str, sizeLine]
      simpa using hc
    have eb : evalB W L (callF W L M) none bodyR [some (.str s), some (.int (pre.length : Int)), some (.str z)] h = .ok (.nx [some (.str s), some (.int (((pre ++ [c]).length : Nat) : Int)), some (.str z)]) h := by
      simp [q_set, q_put, q_expr, q_ret, q_retN, q_ife, q_cons, q_nil, q_cst, q_bin, q_neg, q_cmp, q_and, q_or, q_not, q_eife, q_tup, q_lst, q_dic, q_ix, q_slc, q_cal, q_blt, q_enil, q_econs, q_met, q_raise, q_gst, q_gni, q_glb, r_for, r_lc, r_var, r_ix_ob, r_sl_ob, r_put_ob, r_len_ob, r_tup_ob, r_lst_ob, r_addl, r_app, r_it_ob, r_in_ob, r_nin_ob, optI, Rf.start, r_aug, augD]
    have ih := run_loop M z w (pre ++ [c]) tail s l h (by simp at hL; omega) (by rw [hs]; simp) hl (fun x hx => hw x (List.mem_cons_of_mem _ hx)) ht
    unfold whileI
    rw [ec, R.stm_ok, if_pos rfl, eb]
    rw [show (pre.length + (c :: w).length) = (pre ++ [c]).length + w.length by simp; omega]
    exact ih
theorem run_ok (hL : 20001 ≤ L) (N : Nat) (hN : 1 ≤ N) (z w pre tail s : LC) (h : Hs) (hs : s = pre ++ (w ++ tail)) (hl : s.length ≤ 20000) (hw : ∀ c ∈ w, z.contains c = true) (ht : hd? tail z.contains = false) :
    callF W L N 14 [.str s, .int (pre.length : Int), .str z] h = .ok (.int ((pre.length + w.length : Nat) : Int)) h := by
  obtain ⟨M, rfl⟩ : ∃ M, N = M + 1 := ⟨N - 1, by omega⟩
  rw [callF_s (hW 14 _ (by decide) rfl) rfl]
  have wl : w.length ≤ s.length := by rw [hs]; simp; omega
  have e := run_loop hW L M z w pre tail s L h (by omega) hs hl hw ht
  have es : Rf.start f_after_run.ns [D.str s, .int (pre.length : Int), .str z] = [some (.str s), some (.int (pre.length : Int)), some (.str z)] := rfl
  have eb : f_after_run.body = [.whl condR bodyR, .ret (.var 1)] := rfl
  rw [es, eb, q_cons, r_whl, e, RS.then_nx]
  simp [q_set, q_put, q_expr, q_ret, q_retN, q_ife, q_cons, q_nil, q_cst, q_bin, q_neg, q_cmp, q_and, q_or, q_not, q_eife, q_tup, q_lst, q_dic, q_ix, q_slc, q_cal, q_blt, q_enil, q_econs, q_met, q_raise, q_gst, q_gni, q_glb, r_for, r_lc, r_var, r_ix_ob, r_sl_ob, r_put_ob, r_len_ob, r_tup_ob, r_lst_ob, r_addl, r_app, r_it_ob, r_in_ob, r_nin_ob, optI, Rf.start]
end K01
end

section
namespace K01
open PySem PySem.Spec PyProof.Rows L2 Rf
/-! ### numbers -/
def dgs (n : Nat) : LC := Nat.toDigits 10 n
theorem dgs_str (n : Nat) : (toString ((n : Nat) : Int)).toList = dgs n := by
  show (Nat.repr n).toList = _
  rw [Nat.toList_repr]; rfl
theorem dgs_numL (n : Nat) : (dgs n).map Char.toNat = TL.numL n := rfl
theorem numL_head : ∀ n : Nat, 0 < n → ∃ c r, TL.numL n = c :: r ∧ 49 ≤ c := by
  intro n
  induction n using Nat.strongRecOn with
  | _ n ih =>
    intro hn
    by_cases h : n < 10
    · rw [TL.numL_lt h]; exact ⟨_, _, rfl, by omega⟩
    · obtain ⟨c, r, e, hc⟩ := ih (n / 10) (by omega) (by omega)
      rw [TL.numL_step (by omega), e]
      exact ⟨c, r ++ [48 + n % 10], rfl, hc⟩
theorem dgs_dig {n : Nat} : ∀ c ∈ dgs n, DIG.contains c = true := by
  intro c hc
  have hd := TL.numL_digits n c.toNat (by rw [← dgs_numL]; exact List.mem_map.mpr ⟨c, hc, rfl⟩)
  have : ∀ k, 48 ≤ k → k ≤ 57 → ∀ c : Char, c.toNat = k → DIG.contains c = true := by
    intro k h1 h2 c e
    have hk : k = 48 ∨ k = 49 ∨ k = 50 ∨ k = 51 ∨ k = 52 ∨ k = 53 ∨ k = 54 ∨ k = 55 ∨ k = 56 ∨ k = 57 := by omega
    have inj : ∀ d : Char, c.toNat = d.toNat → c = d := fun d q => Char.ext (UInt32.toNat_inj.mp q)
    rcases hk with rfl | rfl | rfl | rfl | rfl | rfl | rfl | rfl | rfl | rfl
    · rw [inj '0' e]; decide
    · rw [inj '1' e]; decide
    · rw [inj '2' e]; decide
    · rw [inj '3' e]; decide
    · rw [inj '4' e]; decide
    · rw [inj '5' e]; decide
    · rw [inj '6' e]; decide
    · rw [inj '7' e]; decide
    · rw [inj '8' e]; decide
    · rw [inj '9' e]; decide
  exact this _ hd.1 hd.2 c rfl
theorem dgs_ne (n : Nat) : dgs n ≠ [] := by
  intro e
  have := TL.numL_ne n
  rw [← dgs_numL, e] at this
  exact this rfl
theorem dgs_len {n : Nat} (h : n ≤ 65535) : (dgs n).length ≤ 5 := by
  have := TL.numL_len (n := n) (k := 5) (by omega) (by omega)
  rw [← dgs_numL, List.length_map] at this
  exact this
theorem dgs_zero {n : Nat} {r : LC} (e : dgs n = '0' :: r) : r = [] := by
  by_cases h : n = 0
  · subst h
    have : dgs 0 = ['0'] := by decide
    rw [this] at e
    simp only [List.cons.injEq, true_and] at e
    exact e.symm
  · obtain ⟨c, r', e', hc⟩ := numL_head n (by omega)
    rw [← dgs_numL, e] at e'
    simp only [List.map_cons, List.cons.injEq] at e'
    have h0 : ('0' : Char).toNat = 48 := rfl
    omega
theorem dgs_int {n : Nat} (h : n ≤ 65535) : PySem.intText? (st (dgs n)) = some (n : Int) := by
  have e := PySem.W.KIN.num_reads (n := (n : Int)) (by omega) (by omega)
  rw [ofString_st, dgs_str] at e
  exact e
/-! ### slices -/
theorem cut_at {pre w tail s : LC} (hs : s = pre ++ (w ++ tail)) : Rf.cutD s (some (pre.length : Int)) (some ((pre.length + w.length : Nat) : Int)) = w := by
  unfold Rf.cutD
  rw [HT.sIx_nat, HT.sIx_nat]
  have h1 : min pre.length s.length = pre.length := by rw [hs]; simp
  have h2 : min (pre.length + w.length) s.length = pre.length + w.length := by rw [hs]; simp
  rw [h1, h2, hs]
  simp
def RES : List LC := [['a', 'c', 't', 'o', 'r'], ['a', 'n', 'd'], ['b', 'e', 'c', 'o', 'm', 'e'], ['b', 'o', 'o', 'l'], ['c', 'l', 'o', 's', 'e'], ['d', 'o', 'n', 'e'], ['d', 'r', 'o', 'p'], ['e', 'l', 's', 'e'], ['e', 'n', 'd'], ['f', 'a', 'i', 'l'], ['f', 'a', 'l', 'l'], ['f', 'a', 'l', 's', 'e'], ['h', 'e', 'a', 'r'], ['i', 'f'], ['i', 'n', 't'], ['l', 'e', 't'], ['n', 'o', 't'], ['o', 'p', 'e', 'n'], ['o', 'r'], ['s', 'a', 'y'], ['t', 'a', 'l', 'k'], ['t', 'r', 'u', 'e']]
def SIG : List LC := [['=', '='], ['<', '='], ['='], ['<'], ['+'], ['-'], ['*'], ['~'], ['.'], [','], [':'], [';'], ['('], [')'], ['{'], ['}']]
def HasK (W : Wd) : Prop := W.cons = [RES.map D.str, SIG.map D.str]
theorem inL_strs (s : LC) (l : List LC) : inL (.str s) (l.map D.str) = decide (s ∈ l) := by
  unfold inL
  rw [List.any_map]
  by_cases h : s ∈ l
  · rw [decide_eq_true h, List.any_eq_true]; exact ⟨s, h, by simp [eqv]⟩
  · rw [decide_eq_false h, List.any_eq_false]
    intro x hx
    simp only [Function.comp, eqv, beq_iff_eq]
    rintro rfl; exact h hx
theorem strs_flat (l : List LC) : (l.map D.str).all flat = true := by
  rw [List.all_map, List.all_eq_true]; intro x _; rfl
theorem in_res {W : Wd} (hK : HasK W) {h : Hs} (w : LC) : cmpA W.cons .in_ (.str w) (.con 0) h = .ok (.bl (decide (w ∈ RES))) h := by
  have q : inD W.cons (.str w) (.con 0) h = some (decide (w ∈ RES)) := by
    have e0 : W.cons[0]? = some (RES.map D.str) := by rw [hK]; rfl
    simp only [inD, e0]
    rw [if_pos (by rw [strs_flat]; rfl), inL_strs]
  simp only [cmpA, q]; rfl
/-! ### what stands between tokens -/
inductive BL : LC → Prop
  | nil : BL []
  | blk {c r} : BLK.contains c = true → BL r → BL (c :: r)
  | com {b r} : '\n' ∉ b → BL ('\n' :: r) → BL ('#' :: (b ++ '\n' :: r))
def blc (c : Char) : Bool := BLK.contains c || c == '#'
variable {W : Wd} (hW : Has W) (hK : HasK W) (L : Nat)
section
include hW
theorem comment_ok (N : Nat) (hN : 1 ≤ N) (pre b c s : LC) (h : Hs) (hs : s = pre ++ (b ++ '\n' :: c)) (hb : '\n' ∉ b) : callF W L N 15 [.str s, .int (pre.length : Int)] h = .ok (.int ((pre.length + b.length : Nat) : Int)) h := by
  obtain ⟨M, rfl⟩ : ∃ M, N = M + 1 := ⟨N - 1, by omega⟩
  rw [callF_s (hW 15 _ (by decide) rfl) rfl]
  have mk : ∀ (es : List E) (σ : Sg) (h : Hs), metK W (callF W L M) "find" es σ (.str s) h = (evalEs W (callF W L M) none es σ h).bind fun xs h => methD .find (.str s) xs h := by
    intro es σ h
    unfold metK
    simp [isIns]
  have f := find_nl pre b c hb
  rw [← hs] at f
  have lt : ¬ ((pre.length + b.length : Nat) : Int) < 0 := by omega
  have mf : methD .find (.str s) [.str ['\n'], .int (pre.length : Int)] h = .ok (.int ((pre.length + b.length : Nat) : Int)) h := by
    simp only [methD]
    rw [f]
  rw [show ((pre.length + b.length : Nat) : Int) = (pre.length : Int) + (b.length : Int) by omega] at lt mf ⊢
  simp [q_set, q_put, q_expr, q_ret, q_retN, q_ife, q_cons, q_nil, q_cst, q_bin, q_neg, q_cmp, q_and, q_or, q_not, q_eife, q_tup, q_lst, q_dic, q_ix, q_slc, q_cal, q_blt, q_enil, q_econs, q_met, q_raise, q_gst, q_gni, q_glb, r_for, r_lc, r_var, r_ix_ob, r_sl_ob, r_put_ob, r_len_ob, r_tup_ob, r_lst_ob, r_addl, r_app, r_it_ob, r_in_ob, r_nin_ob, optI, Rf.start, f_after_comment, mk, mf, lt]
abbrev condB : E := .and (.cmp .lt (.var 1) (.blt .len [(.var 0)])) (.or (.cmp .in_ (.ix (.var 0) (.var 1)) (.gst 0 [' ', '\t', '\n'])) (.cmp .eq (.ix (.var 0) (.var 1)) (.cst (.str ['#']))))
abbrev bodyB : List S := [.set 1 (.ife (.cmp .eq (.ix (.var 0) (.var 1)) (.cst (.str ['#']))) (.cal 15 [(.var 0), (.var 1)]) (.bin .add (.var 1) (.cst (.int 1))))]
theorem blank_loop (M : Nat) (hM : 1 ≤ M) {sp : LC} (hB : BL sp) : ∀ (pre tail s : LC) (Lf : Nat) (h : Hs), sp.length < Lf → s = pre ++ (sp ++ tail) → s.length ≤ 20000 → hd? tail blc = false →
    whileI (fun σ h => (evalE W (callF W L M) none condB σ h).bind fun x h => truthR x h) (evalB W L (callF W L M) none bodyB) Lf [some (.str s), some (.int (pre.length : Int))] h = .ok (.nx [some (.str s), some (.int ((pre.length + sp.length : Nat) : Int))]) h := by
  induction hB with
  | nil =>
    intro pre tail s Lf h hL hs hl ht
    obtain ⟨l, rfl⟩ : ∃ l, Lf = l + 1 := ⟨Lf - 1, by simp at hL; omega⟩
    have hl2 : s.length ≤ 16777216 := by omega
    have ec : (evalE W (callF W L M) none condB [some (.str s), some (.int (pre.length : Int))] h).bind (fun x h => truthR x h) = .ok false h := by
      cases tail with
      | nil =>
        have : ¬ (pre.length : Int) < (s.length : Int) := by rw [hs]; simp
        simp [q_set, q_put, q_expr, q_ret, q_retN, q_ife, q_cons, q_nil, q_cst, q_bin, q_neg, q_cmp, q_and, q_or, q_not, q_eife, q_tup, q_lst, q_dic, q_ix, q_slc, q_cal, q_blt, q_enil, q_econs, q_met, q_raise, q_gst, q_gni, q_glb, r_for, r_lc, r_var, r_ix_ob, r_sl_ob, r_put_ob, r_len_ob, r_tup_ob, r_lst_ob, r_addl, r_app, r_it_ob, r_in_ob, r_nin_ob, optI, Rf.start, hl2, this, sizeLine]
      | cons c r =>
        have hlt : (pre.length : Int) < (s.length : Int) := by rw [hs]; simp; omega
        have ht' : blc c = false := ht
        unfold blc at ht'
        rw [Bool.or_eq_false_iff] at ht'
        have h1 : ([' ', '\t', '\n'] : LC).contains c = false := ht'.1
        have h2 : ¬ c = '#' := by simpa using ht'.2
        have e1 := ix_at (cs := W.cons) (h := h) (r := r) (c := c) (by simpa using hs) hl
        have e2 := in_str (cs := W.cons) (h := h) (c := c) (z := [' ', '\t', '\n'])
        rw [h1] at e2
        simp [q_set, q_put, q_expr, q_ret, q_retN, q_ife, q_cons, q_nil, q_cst, q_bin, q_neg, q_cmp, q_and, q_or, q_not, q_eife, q_tup, q_lst, q_dic, q_ix, q_slc, q_cal, q_blt, q_enil, q_econs, q_met, q_raise, q_gst, q_gni, q_glb, r_for, r_lc, r_var, r_ix_ob, r_sl_ob, r_put_ob, r_len_ob, r_tup_ob, r_lst_ob, r_addl, r_app, r_it_ob, r_in_ob, r_nin_ob, optI, Rf.start, hl2, hlt, e1, e2, h2, sizeLine]
    unfold whileI
    rw [ec, R.stm_ok]
    simp
  | @blk c r hc hr ih =>
    intro pre tail s Lf h hL hs hl ht
    obtain ⟨l, rfl⟩ : ∃ l, Lf = l + 1 := ⟨Lf - 1, by simp at hL; omega⟩
    have hl2 : s.length ≤ 16777216 := by omega
    have hlt : (pre.length : Int) < (s.length : Int) := by rw [hs]; simp; omega
    have e1 := ix_at (cs := W.cons) (h := h) (r := r ++ tail) (c := c) (by simpa using hs) hl
    have e2 := in_str (cs := W.cons) (h := h) (c := c) (z := [' ', '\t', '\n'])
    have hc' : ([' ', '\t', '\n'] : LC).contains c = true := hc
    rw [hc'] at e2
    have h2 : ¬ c = '#' := by rintro rfl; simp at hc
    have ec : (evalE W (callF W L M) none condB [some (.str s), some (.int (pre.length : Int))] h).bind (fun x h => truthR x h) = .ok true h := by
      simp [q_set, q_put, q_expr, q_ret, q_retN, q_ife, q_cons, q_nil, q_cst, q_bin, q_neg, q_cmp, q_and, q_or, q_not, q_eife, q_tup, q_lst, q_dic, q_ix, q_slc, q_cal, q_blt, q_enil, q_econs, q_met, q_raise, q_gst, q_gni, q_glb, r_for, r_lc, r_var, r_ix_ob, r_sl_ob, r_put_ob, r_len_ob, r_tup_ob, r_lst_ob, r_addl, r_app, r_it_ob, r_in_ob, r_nin_ob, optI, Rf.start, hl2, hlt, e1, e2, sizeLine]
    have eb : evalB W L (callF W L M) none bodyB [some (.str s), some (.int (pre.length : Int))] h = .ok (.nx [some (.str s), some (.int (((pre ++ [c]).length : Nat) : Int))]) h := by
      simp [q_set, q_put, q_expr, q_ret, q_retN, q_ife, q_cons, q_nil, q_cst, q_bin, q_neg, q_cmp, q_and, q_or, q_not, q_eife, q_tup, q_lst, q_dic, q_ix, q_slc, q_cal, q_blt, q_enil, q_econs, q_met, q_raise, q_gst, q_gni, q_glb, r_for, r_lc, r_var, r_ix_ob, r_sl_ob, r_put_ob, r_len_ob, r_tup_ob, r_lst_ob, r_addl, r_app, r_it_ob, r_in_ob, r_nin_ob, optI, Rf.start, e1, h2]
    have e9 := ih (pre ++ [c]) tail s l h (by simp at hL; omega) (by rw [hs]; simp) hl ht
    unfold whileI
    rw [ec, R.stm_ok, if_pos rfl, eb]
    rw [show (pre.length + (c :: r).length) = (pre ++ [c]).length + r.length by simp; omega]
    exact e9
  | @com b r hb hr ih =>
    intro pre tail s Lf h hL hs hl ht
    obtain ⟨l, rfl⟩ : ∃ l, Lf = l + 1 := ⟨Lf - 1, by simp at hL; omega⟩
    have hl2 : s.length ≤ 16777216 := by omega
    have hlt : (pre.length : Int) < (s.length : Int) := by rw [hs]; simp; omega
    have e1 := ix_at (cs := W.cons) (h := h) (r := b ++ '\n' :: r ++ tail) (c := '#') (by simpa using hs) hl
    have e2 := in_str (cs := W.cons) (h := h) (c := '#') (z := [' ', '\t', '\n'])
    have hc' : ([' ', '\t', '\n'] : LC).contains '#' = false := by decide
    rw [hc'] at e2
    have ec : (evalE W (callF W L M) none condB [some (.str s), some (.int (pre.length : Int))] h).bind (fun x h => truthR x h) = .ok true h := by
      simp [q_set, q_put, q_expr, q_ret, q_retN, q_ife, q_cons, q_nil, q_cst, q_bin, q_neg, q_cmp, q_and, q_or, q_not, q_eife, q_tup, q_lst, q_dic, q_ix, q_slc, q_cal, q_blt, q_enil, q_econs, q_met, q_raise, q_gst, q_gni, q_glb, r_for, r_lc, r_var, r_ix_ob, r_sl_ob, r_put_ob, r_len_ob, r_tup_ob, r_lst_ob, r_addl, r_app, r_it_ob, r_in_ob, r_nin_ob, optI, Rf.start, hl2, hlt, e1, e2, sizeLine]
    have e3 := comment_ok hW L M hM pre ('#' :: b) (r ++ tail) s h (by rw [hs]; simp) (by simp [hb])
    have eb : evalB W L (callF W L M) none bodyB [some (.str s), some (.int (pre.length : Int))] h = .ok (.nx [some (.str s), some (.int (((pre ++ '#' :: b).length : Nat) : Int))]) h := by
      rw [show ((pre ++ '#' :: b).length) = pre.length + ('#' :: b).length by simp]
      generalize pre.length + ('#' :: b).length = k at e3 ⊢
      simp [q_set, q_put, q_expr, q_ret, q_retN, q_ife, q_cons, q_nil, q_cst, q_bin, q_neg, q_cmp, q_and, q_or, q_not, q_eife, q_tup, q_lst, q_dic, q_ix, q_slc, q_cal, q_blt, q_enil, q_econs, q_met, q_raise, q_gst, q_gni, q_glb, r_for, r_lc, r_var, r_ix_ob, r_sl_ob, r_put_ob, r_len_ob, r_tup_ob, r_lst_ob, r_addl, r_app, r_it_ob, r_in_ob, r_nin_ob, optI, Rf.start, e1, e3]
    have e9 := ih (pre ++ '#' :: b) tail s l h (by simp at hL ⊢; omega) (by rw [hs]; simp) hl ht
    unfold whileI
    rw [ec, R.stm_ok, if_pos rfl, eb]
    rw [show (pre.length + ('#' :: (b ++ '\n' :: r)).length) = (pre ++ '#' :: b).length + ('\n' :: r).length by simp; omega]
    exact e9
theorem blank_ok (hL : 20001 ≤ L) (N : Nat) (hN : 2 ≤ N) {sp : LC} (hB : BL sp) (pre tail s : LC) (h : Hs) (hs : s = pre ++ (sp ++ tail)) (hl : s.length ≤ 20000) (ht : hd? tail blc = false) :
    callF W L N 16 [.str s, .int (pre.length : Int)] h = .ok (.int ((pre.length + sp.length : Nat) : Int)) h := by
  obtain ⟨M, rfl⟩ : ∃ M, N = M + 1 := ⟨N - 1, by omega⟩
  rw [callF_s (hW 16 _ (by decide) rfl) rfl]
  have wl : sp.length ≤ s.length := by rw [hs]; simp; omega
  have e := blank_loop hW L M (by omega) hB pre tail s L h (by omega) hs hl ht
  have es : Rf.start f_after_blanks.ns [D.str s, .int (pre.length : Int)] = [some (.str s), some (.int (pre.length : Int))] := rfl
  have eb : f_after_blanks.body = [.whl condB bodyB, .ret (.var 1)] := rfl
  rw [es, eb, q_cons, r_whl, e, RS.then_nx]
  simp [q_set, q_put, q_expr, q_ret, q_retN, q_ife, q_cons, q_nil, q_cst, q_bin, q_neg, q_cmp, q_and, q_or, q_not, q_eife, q_tup, q_lst, q_dic, q_ix, q_slc, q_cal, q_blt, q_enil, q_econs, q_met, q_raise, q_gst, q_gni, q_glb, r_for, r_lc, r_var, r_ix_ob, r_sl_ob, r_put_ob, r_len_ob, r_tup_ob, r_lst_ob, r_addl, r_app, r_it_ob, r_in_ob, r_nin_ob, optI, Rf.start]
/-! ### one token -/
abbrev kWo : LC := ['w', 'o', 'r', 'd']
abbrev kNa : LC := ['n', 'a', 'm', 'e']
abbrev kNu : LC := ['n', 'u', 'm', 'b', 'e', 'r']
abbrev kSi : LC := ['s', 'i', 'g', 'n']
include hK
theorem word_ok (hL : 20001 ≤ L) (N : Nat) (hN : 2 ≤ N) (w pre tail s : LC) (h : Hs) (hs : s = pre ++ (w ++ tail)) (hl : s.length ≤ 20000) (hw : ∀ c ∈ w, NCH.contains c = true) (hw2 : w.length ≤ 20) (ht : hd? tail NCH.contains = false) :
    callF W L N 12 [.str s, .int (pre.length : Int)] h = .ok (.tup [.str (if w ∈ RES then kWo else kNa), .str w, .int ((pre.length + w.length : Nat) : Int)]) h := by
  obtain ⟨M, rfl⟩ : ∃ M, N = M + 1 := ⟨N - 1, by omega⟩
  rw [callF_s (hW 12 _ (by decide) rfl) rfl]
  have e1 := run_ok hW L hL M (by omega) NCH w pre tail s h hs hl hw ht
  have e2 := cut_at hs
  have hl2 : s.length ≤ 16777216 := by omega
  have hl3 : w.length ≤ 16777216 := by omega
  have hl4 : ¬ (20 : Int) < (w.length : Int) := by omega
  have e3 := in_res hK (h := h) w
  generalize pre.length + w.length = k at e1 e2 ⊢
  by_cases hr : w ∈ RES
  · rw [decide_eq_true hr] at e3
    simp [q_set, q_put, q_expr, q_ret, q_retN, q_ife, q_cons, q_nil, q_cst, q_bin, q_neg, q_cmp, q_and, q_or, q_not, q_eife, q_tup, q_lst, q_dic, q_ix, q_slc, q_cal, q_blt, q_enil, q_econs, q_met, q_raise, q_gst, q_gni, q_glb, r_for, r_lc, r_var, r_ix_ob, r_sl_ob, r_put_ob, r_len_ob, r_tup_ob, r_lst_ob, r_addl, r_app, r_it_ob, r_in_ob, r_nin_ob, optI, Rf.start, f_read_word, e1, e2, slD, hl2, hl3, hl4, e3, hr, sizeLine]
  · rw [decide_eq_false hr] at e3
    simp [q_set, q_put, q_expr, q_ret, q_retN, q_ife, q_cons, q_nil, q_cst, q_bin, q_neg, q_cmp, q_and, q_or, q_not, q_eife, q_tup, q_lst, q_dic, q_ix, q_slc, q_cal, q_blt, q_enil, q_econs, q_met, q_raise, q_gst, q_gni, q_glb, r_for, r_lc, r_var, r_ix_ob, r_sl_ob, r_put_ob, r_len_ob, r_tup_ob, r_lst_ob, r_addl, r_app, r_it_ob, r_in_ob, r_nin_ob, optI, Rf.start, f_read_word, e1, e2, slD, hl2, hl3, hl4, e3, hr, sizeLine]
omit hK in
theorem number_ok (hL : 20001 ≤ L) (N : Nat) (hN : 2 ≤ N) (n : Nat) (hn : n ≤ 65535) (pre tail s : LC) (h : Hs) (hs : s = pre ++ (dgs n ++ tail)) (hl : s.length ≤ 20000) (ht : hd? tail NCH.contains = false) :
    callF W L N 11 [.str s, .int (pre.length : Int)] h = .ok (.tup [.str kNu, .int n, .int ((pre.length + (dgs n).length : Nat) : Int)]) h := by
  obtain ⟨M, rfl⟩ : ∃ M, N = M + 1 := ⟨N - 1, by omega⟩
  rw [callF_s (hW 11 _ (by decide) rfl) rfl]
  have ht2 : hd? tail DIG.contains = false := by
    cases tail with
    | nil => rfl
    | cons c r =>
      have : NCH.contains c = false := ht
      show DIG.contains c = false
      cases hq : DIG.contains c with
      | false => rfl
      | true =>
        have hm : c ∈ DIG := List.contains_iff_mem.mp hq
        have h2 : NCH.contains c = true := List.contains_iff_mem.mpr (List.mem_cons_of_mem _ (List.mem_append_left (as := DIG) LET hm))
        rw [h2] at this
        cases this
  have e1 := run_ok hW L hL M (by omega) DIG (dgs n) pre tail s h hs hl dgs_dig ht2
  have e2 := cut_at hs
  have hl2 : s.length ≤ 16777216 := by omega
  have dl := dgs_len hn
  have hl3 : (dgs n).length ≤ 16777216 := by omega
  have hl4 : ¬ (5 : Int) < ((dgs n).length : Int) := by omega
  have hl5 : ¬ (65535 : Int) < (n : Int) := by omega
  have hl6 : (dgs n).length ≤ 640 := by omega
  have e3 : ∀ h : Hs, bltC W .int [.str (dgs n)] h = .ok (.int n) h := by
    intro h
    show (match PySem.intText? (st (dgs n)) with | some n => if _ then _ else _ | none => _) = _
    rw [dgs_int hn]
    simp only [hl6, if_true]
  obtain ⟨c, r, ed⟩ : ∃ c r, dgs n = c :: r := by
    cases e : dgs n with
    | nil => exact absurd e (dgs_ne n)
    | cons c r => exact ⟨c, r, rfl⟩
  have e4 : ixD W.cons (.str (dgs n)) (.int 0) h = .ok (.str [c]) h := by
    have := ix_at (cs := W.cons) (h := h) (s := dgs n) (pre := []) (r := r) (c := c) (by simpa using ed) (by omega)
    simpa using this
  have kk : pre.length + (dgs n).length ≤ s.length := by rw [hs]; simp
  have e5 : (evalE W (callF W L M) none (.and (.cmp .lt (.var 2) (.blt .len [(.var 0)])) (.cmp .in_ (.ix (.var 0) (.var 2)) (.gst 3 NCH))) [some (.str s), some (.int (pre.length : Int)), some (.int ((pre.length + (dgs n).length : Nat) : Int)), some (.str (dgs n))] h) = .ok (.bl false) h := by
    cases tail with
    | nil =>
      have : ¬ ((pre.length + (dgs n).length : Nat) : Int) < (s.length : Int) := by rw [hs]; simp
      generalize pre.length + (dgs n).length = k at this ⊢
      simp [q_set, q_put, q_expr, q_ret, q_retN, q_ife, q_cons, q_nil, q_cst, q_bin, q_neg, q_cmp, q_and, q_or, q_not, q_eife, q_tup, q_lst, q_dic, q_ix, q_slc, q_cal, q_blt, q_enil, q_econs, q_met, q_raise, q_gst, q_gni, q_glb, r_for, r_lc, r_var, r_ix_ob, r_sl_ob, r_put_ob, r_len_ob, r_tup_ob, r_lst_ob, r_addl, r_app, r_it_ob, r_in_ob, r_nin_ob, optI, Rf.start, hl2, this, sizeLine]
    | cons c' r' =>
      have hlt : ((pre.length + (dgs n).length : Nat) : Int) < (s.length : Int) := by rw [hs]; simp; omega
      have hc : NCH.contains c' = false := ht
      have ei := ix_at (cs := W.cons) (h := h) (s := s) (pre := pre ++ dgs n) (r := r') (c := c') (by rw [hs]; simp) hl
      rw [List.length_append] at ei
      have e6 := in_str (cs := W.cons) (h := h) (c := c') (z := NCH)
      rw [hc] at e6
      generalize pre.length + (dgs n).length = k at hlt ei ⊢
      generalize NCH = z at e6 ⊢
      simp [q_set, q_put, q_expr, q_ret, q_retN, q_ife, q_cons, q_nil, q_cst, q_bin, q_neg, q_cmp, q_and, q_or, q_not, q_eife, q_tup, q_lst, q_dic, q_ix, q_slc, q_cal, q_blt, q_enil, q_econs, q_met, q_raise, q_gst, q_gni, q_glb, r_for, r_lc, r_var, r_ix_ob, r_sl_ob, r_put_ob, r_len_ob, r_tup_ob, r_lst_ob, r_addl, r_app, r_it_ob, r_in_ob, r_nin_ob, optI, Rf.start, hl2, hlt, ei, e6, sizeLine]
  have s4 : (evalE W (callF W L M) none (.and (.cmp .eq (.ix (.var 3) (.cst (.int 0))) (.cst (.str ['0']))) (.cmp .gt (.blt .len [(.var 3)]) (.cst (.int 1)))) [some (.str s), some (.int (pre.length : Int)), some (.int ((pre.length + (dgs n).length : Nat) : Int)), some (.str (dgs n))] h) = .ok (.bl false) h := by
    by_cases hc0 : c = '0'
    · subst hc0
      have hr := dgs_zero ed
      subst hr
      have : (dgs n).length = 1 := by rw [ed]; rfl
      simp [q_set, q_put, q_expr, q_ret, q_retN, q_ife, q_cons, q_nil, q_cst, q_bin, q_neg, q_cmp, q_and, q_or, q_not, q_eife, q_tup, q_lst, q_dic, q_ix, q_slc, q_cal, q_blt, q_enil, q_econs, q_met, q_raise, q_gst, q_gni, q_glb, r_for, r_lc, r_var, r_ix_ob, r_sl_ob, r_put_ob, r_len_ob, r_tup_ob, r_lst_ob, r_addl, r_app, r_it_ob, r_in_ob, r_nin_ob, optI, Rf.start, e4, hl3, this, sizeLine]
    · simp [q_set, q_put, q_expr, q_ret, q_retN, q_ife, q_cons, q_nil, q_cst, q_bin, q_neg, q_cmp, q_and, q_or, q_not, q_eife, q_tup, q_lst, q_dic, q_ix, q_slc, q_cal, q_blt, q_enil, q_econs, q_met, q_raise, q_gst, q_gni, q_glb, r_for, r_lc, r_var, r_ix_ob, r_sl_ob, r_put_ob, r_len_ob, r_tup_ob, r_lst_ob, r_addl, r_app, r_it_ob, r_in_ob, r_nin_ob, optI, Rf.start, e4, hl3, hc0, sizeLine]
  have es : Rf.start f_read_number.ns [D.str s, .int (pre.length : Int)] = [some (.str s), some (.int (pre.length : Int)), none, none] := rfl
  have eb : f_read_number.body = [.set 2 (.cal 14 [(.var 0), (.var 1), (.gst 1 DIG)]), .set 3 (.slc (.var 0) [(.var 1)] [(.var 2)]),
    .ife (.or (.cmp .gt (.blt .len [(.var 3)]) (.gni 3 (5))) (.cmp .gt (.blt .int [(.var 3)]) (.gni 2 (65535)))) [.raise 1 [(.var 1)]] [],
    .ife (.and (.cmp .eq (.ix (.var 3) (.cst (.int 0))) (.cst (.str ['0']))) (.cmp .gt (.blt .len [(.var 3)]) (.cst (.int 1)))) [.raise 1 [(.var 1)]] [],
    .ife (.and (.cmp .lt (.var 2) (.blt .len [(.var 0)])) (.cmp .in_ (.ix (.var 0) (.var 2)) (.gst 3 NCH))) [.raise 1 [(.var 1)]] [],
    .ret (.tup [(.cst (.str ['n', 'u', 'm', 'b', 'e', 'r'])), (.blt .int [(.var 3)]), (.var 2)])] := rfl
  rw [es, eb]
  have t1 : evalS W L (callF W L M) none (.set 2 (.cal 14 [(.var 0), (.var 1), (.gst 1 DIG)])) [some (.str s), some (.int (pre.length : Int)), none, none] h = .ok (.nx [some (.str s), some (.int (pre.length : Int)), some (.int ((pre.length + (dgs n).length : Nat) : Int)), none]) h := by
    generalize pre.length + (dgs n).length = k at e1 ⊢
    generalize DIG = z at e1 ⊢
    simp [q_set, q_put, q_expr, q_ret, q_retN, q_ife, q_cons, q_nil, q_cst, q_bin, q_neg, q_cmp, q_and, q_or, q_not, q_eife, q_tup, q_lst, q_dic, q_ix, q_slc, q_cal, q_blt, q_enil, q_econs, q_met, q_raise, q_gst, q_gni, q_glb, r_for, r_lc, r_var, r_ix_ob, r_sl_ob, r_put_ob, r_len_ob, r_tup_ob, r_lst_ob, r_addl, r_app, r_it_ob, r_in_ob, r_nin_ob, optI, Rf.start, e1]
  have t2 : evalS W L (callF W L M) none (.set 3 (.slc (.var 0) [(.var 1)] [(.var 2)])) [some (.str s), some (.int (pre.length : Int)), some (.int ((pre.length + (dgs n).length : Nat) : Int)), none] h = .ok (.nx [some (.str s), some (.int (pre.length : Int)), some (.int ((pre.length + (dgs n).length : Nat) : Int)), some (.str (dgs n))]) h := by
    generalize pre.length + (dgs n).length = k at e2 ⊢
    simp [q_set, q_put, q_expr, q_ret, q_retN, q_ife, q_cons, q_nil, q_cst, q_bin, q_neg, q_cmp, q_and, q_or, q_not, q_eife, q_tup, q_lst, q_dic, q_ix, q_slc, q_cal, q_blt, q_enil, q_econs, q_met, q_raise, q_gst, q_gni, q_glb, r_for, r_lc, r_var, r_ix_ob, r_sl_ob, r_put_ob, r_len_ob, r_tup_ob, r_lst_ob, r_addl, r_app, r_it_ob, r_in_ob, r_nin_ob, optI, Rf.start, slD, hl2, e2, sizeLine]
  have t3 : evalS W L (callF W L M) none (.ife (.or (.cmp .gt (.blt .len [(.var 3)]) (.gni 3 (5))) (.cmp .gt (.blt .int [(.var 3)]) (.gni 2 (65535)))) [.raise 1 [(.var 1)]] []) [some (.str s), some (.int (pre.length : Int)), some (.int ((pre.length + (dgs n).length : Nat) : Int)), some (.str (dgs n))] h = .ok (.nx [some (.str s), some (.int (pre.length : Int)), some (.int ((pre.length + (dgs n).length : Nat) : Int)), some (.str (dgs n))]) h := by
    simp [q_set, q_put, q_expr, q_ret, q_retN, q_ife, q_cons, q_nil, q_cst, q_bin, q_neg, q_cmp, q_and, q_or, q_not, q_eife, q_tup, q_lst, q_dic, q_ix, q_slc, q_cal, q_blt, q_enil, q_econs, q_met, q_raise, q_gst, q_gni, q_glb, r_for, r_lc, r_var, r_ix_ob, r_sl_ob, r_put_ob, r_len_ob, r_tup_ob, r_lst_ob, r_addl, r_app, r_it_ob, r_in_ob, r_nin_ob, optI, Rf.start, hl3, hl4, e3, hl5, sizeLine]
  rw [q_cons, t1, RS.then_nx, q_cons, t2, RS.then_nx, q_cons, t3, RS.then_nx, q_cons, q_ife, s4, R.stm_ok, r_tbl, R.stm_ok, if_neg (by decide), q_nil, RS.then_nx, q_cons, q_ife, e5, R.stm_ok, r_tbl, R.stm_ok, if_neg (by decide), q_nil, RS.then_nx]
  simp [q_set, q_put, q_expr, q_ret, q_retN, q_ife, q_cons, q_nil, q_cst, q_bin, q_neg, q_cmp, q_and, q_or, q_not, q_eife, q_tup, q_lst, q_dic, q_ix, q_slc, q_cal, q_blt, q_enil, q_econs, q_met, q_raise, q_gst, q_gni, q_glb, r_for, r_lc, r_var, r_ix_ob, r_sl_ob, r_put_ob, r_len_ob, r_tup_ob, r_lst_ob, r_addl, r_app, r_it_ob, r_in_ob, r_nin_ob, optI, Rf.start, e3, sizeLine]
/-- the signs -/
abbrev bodyS : List S := [.ife (.met (.var 0) "startswith" [(.var 2), (.var 1)])
      [.ret (.tup [(.cst (.str ['s', 'i', 'g', 'n'])), (.var 2), (.bin .add (.var 1) (.blt .len [(.var 2)]))])]
      []]
omit hK in
theorem sign_loop (M : Nat) (pre rest s w : LC) (h : Hs) (hs : s = pre ++ rest) (hw : w.length ≤ 20) (b : List LC) (e : rest.take w.length = w) : ∀ (a : List LC) (s2 : Option D), (∀ p ∈ a, rest.take p.length ≠ p) →
    forI .none (fT W L (callF W L M) (.nm 2) bodyS) ((a ++ w :: b).map D.str) [some (.str s), some (.int (pre.length : Int)), s2] h = .ok (.rt (.tup [.str kSi, .str w, .int ((pre.length + w.length : Nat) : Int)])) h := by
  have mk : ∀ (es : List E) (σ : Sg) (h : Hs), metK W (callF W L M) "startswith" es σ (.str s) h = (evalEs W (callF W L M) none es σ h).bind fun xs h => methD .startswith (.str s) xs h := by
    intro es σ h
    unfold metK
    simp [isIns]
  have md : ∀ p : LC, methD .startswith (.str s) [.str p, .int (pre.length : Int)] h = .ok (.bl (decide (rest.take p.length = p))) h := by
    intro p
    simp only [methD]
    rw [hs, sw_at]
  intro a
  induction a with
  | nil =>
    intro s2 _
    have hl : w.length ≤ 16777216 := by omega
    have m1 := md w
    rw [decide_eq_true e] at m1
    rw [List.nil_append, List.map_cons]
    simp only [forI]
    rw [fT_some (σ1 := [some (.str s), some (.int (pre.length : Int)), some (.str w)]) rfl]
    have : evalB W L (callF W L M) none bodyS [some (.str s), some (.int (pre.length : Int)), some (.str w)] h = .ok (.rt (.tup [.str kSi, .str w, .int ((pre.length + w.length : Nat) : Int)])) h := by
      simp [q_set, q_put, q_expr, q_ret, q_retN, q_ife, q_cons, q_nil, q_cst, q_bin, q_neg, q_cmp, q_and, q_or, q_not, q_eife, q_tup, q_lst, q_dic, q_ix, q_slc, q_cal, q_blt, q_enil, q_econs, q_met, q_raise, q_gst, q_gni, q_glb, r_for, r_lc, r_var, r_ix_ob, r_sl_ob, r_put_ob, r_len_ob, r_tup_ob, r_lst_ob, r_addl, r_app, r_it_ob, r_in_ob, r_nin_ob, optI, Rf.start, mk, m1, hl, sizeLine]
    rw [this]
    simp [Rf.same, endG]
  | cons p a ih =>
    intro s2 hp
    have m1 := md p
    rw [decide_eq_false (hp p List.mem_cons_self)] at m1
    rw [List.cons_append, List.map_cons, forI_nx (h' := h) (σ' := [some (.str s), some (.int (pre.length : Int)), some (.str p)]) (by trivial) ?_]
    · exact ih _ fun q hq => hp q (List.mem_cons_of_mem _ hq)
    · rw [fT_some (σ1 := [some (.str s), some (.int (pre.length : Int)), some (.str p)]) rfl]
      simp [q_set, q_put, q_expr, q_ret, q_retN, q_ife, q_cons, q_nil, q_cst, q_bin, q_neg, q_cmp, q_and, q_or, q_not, q_eife, q_tup, q_lst, q_dic, q_ix, q_slc, q_cal, q_blt, q_enil, q_econs, q_met, q_raise, q_gst, q_gni, q_glb, r_for, r_lc, r_var, r_ix_ob, r_sl_ob, r_put_ob, r_len_ob, r_tup_ob, r_lst_ob, r_addl, r_app, r_it_ob, r_in_ob, r_nin_ob, optI, Rf.start, mk, m1]
theorem sig_split {w tail : LC} (hw : w ∈ SIG) (ht : (w = ['='] ∨ w = ['<']) → hd? tail (· == '=') = false) : ∃ a b, SIG = a ++ w :: b ∧ ∀ p ∈ a, (w ++ tail).take p.length ≠ p := by
  have tn : (w = ['='] ∨ w = ['<']) → tail.take 1 ≠ ['='] := by
    intro q
    have := ht q
    cases tail with
    | nil => simp
    | cons c r =>
      have h2 : (c == '=') = false := this
      simp at h2
      simp [h2]
  have go : ∀ (i : Nat), SIG[i]? = some w → (∀ p ∈ SIG.take i, (w ++ tail).take p.length ≠ p) → ∃ a b, SIG = a ++ w :: b ∧ ∀ p ∈ a, (w ++ tail).take p.length ≠ p := by
    intro i e q
    obtain ⟨hi, e2⟩ := List.getElem?_eq_some_iff.mp e
    refine ⟨SIG.take i, SIG.drop (i + 1), ?_, q⟩
    rw [← e2, List.getElem_cons_drop, List.take_append_drop]
  simp only [SIG, List.mem_cons, List.not_mem_nil, or_false] at hw
  rcases hw with rfl | rfl | rfl | rfl | rfl | rfl | rfl | rfl | rfl | rfl | rfl | rfl | rfl | rfl | rfl | rfl
  · exact go 0 rfl (by simp)
  · exact go 1 rfl (by simp [SIG])
  · have := tn (.inl rfl); exact go 2 rfl (by simp [SIG]; simpa using this)
  · have := tn (.inr rfl); exact go 3 rfl (by simp [SIG]; simpa using this)
  all_goals first
    | exact go 4 rfl (by simp [SIG]) | exact go 5 rfl (by simp [SIG]) | exact go 6 rfl (by simp [SIG]) | exact go 7 rfl (by simp [SIG]) | exact go 8 rfl (by simp [SIG]) | exact go 9 rfl (by simp [SIG])
    | exact go 10 rfl (by simp [SIG]) | exact go 11 rfl (by simp [SIG]) | exact go 12 rfl (by simp [SIG]) | exact go 13 rfl (by simp [SIG]) | exact go 14 rfl (by simp [SIG]) | exact go 15 rfl (by simp [SIG])
theorem sign_ok (N : Nat) (hN : 1 ≤ N) {w : LC} (hw : w ∈ SIG) (pre tail s : LC) (h : Hs) (hs : s = pre ++ (w ++ tail)) (ht : (w = ['='] ∨ w = ['<']) → hd? tail (· == '=') = false) :
    callF W L N 10 [.str s, .int (pre.length : Int)] h = .ok (.tup [.str kSi, .str w, .int ((pre.length + w.length : Nat) : Int)]) h := by
  obtain ⟨M, rfl⟩ : ∃ M, N = M + 1 := ⟨N - 1, by omega⟩
  rw [callF_s (hW 10 _ (by decide) rfl) rfl]
  obtain ⟨a, b, e1, e2⟩ := sig_split hW hK hw ht
  have hl : w.length ≤ 20 := by
    have : ∀ w ∈ SIG, w.length ≤ 20 := by decide
    exact this w hw
  have e := sign_loop hW L M pre (w ++ tail) s w h hs hl b (by simp) a none e2
  rw [← e1] at e
  have es : Rf.start f_read_sign.ns [D.str s, .int (pre.length : Int)] = [some (.str s), some (.int (pre.length : Int)), none] := rfl
  have eb : f_read_sign.body = [.for_ (.nm 2) .seq [(.glb 1)] bodyS, .raise 1 [(.var 1)]] := rfl
  have it : evalEs W (callF W L M) none [(.glb 1)] [some (.str s), some (.int (pre.length : Int)), none] h = .ok [.con 1] h := by simp [q_set, q_put, q_expr, q_ret, q_retN, q_ife, q_cons, q_nil, q_cst, q_bin, q_neg, q_cmp, q_and, q_or, q_not, q_eife, q_tup, q_lst, q_dic, q_ix, q_slc, q_cal, q_blt, q_enil, q_econs, q_met, q_raise, q_gst, q_gni, q_glb, r_for, r_lc, r_var, r_ix_ob, r_sl_ob, r_put_ob, r_len_ob, r_tup_ob, r_lst_ob, r_addl, r_app, r_it_ob, r_in_ob, r_nin_ob, optI, Rf.start]
  have ii : itemsI W.cons .seq [.con 1] h = some (SIG.map D.str, .none, h) := by
    have e0 : W.cons[1]? = some (SIG.map D.str) := by rw [hK]; rfl
    simp only [itemsI, e0]
    rfl
  rw [es, eb, q_cons, r_for, it, R.stm_ok, ii, ofO_some, R.stm_ok]
  dsimp only
  rw [e, RS.then_rt]
  rfl
end
end K01
end

section
namespace K01
open PySem PySem.Spec PyProof.Rows L2 Rf
/-- what stands stays -/
def Kx (h h' : Hs) : Prop := h.length ≤ h'.length ∧ ∀ (i : Nat) (mo : MO), h[i]? = some mo → h'[i]? = some mo
theorem Kx.refl {h} : Kx h h := ⟨Nat.le_refl _, fun _ _ e => e⟩
theorem Kx.trans {h h1 h2} (a : Kx h h1) (b : Kx h1 h2) : Kx h h2 := ⟨Nat.le_trans a.1 b.1, fun i mo e => b.2 i mo (a.2 i mo e)⟩
theorem Kx.app {h t} : Kx h (h ++ t) := ⟨by simp, fun i mo e => lk_app e⟩
theorem Kx.kp {p h h'} (a : Kx h h') : Kp p h h' := ⟨a.1, fun i mo _ e => a.2 i mo e⟩
theorem Kx.of_new {h h1 h2 z} (a : Kx h h1) (hz : h.length ≤ z) (b : Kp z h1 h2) : Kx h h2 := ⟨Nat.le_trans a.1 b.1, fun i mo e => b.2 i mo (fun q => by have := lk_lt e; omega) (a.2 i mo e)⟩
/-! ### pieces -/
inductive Pc where | word (w : LC) | name (w : LC) | num (n : Nat) | sign (w : LC)
def Pc.t : Pc → LC
  | .word w => w | .name w => w | .num n => dgs n | .sign w => w
def Pc.k : Pc → LC
  | .word _ => kWo | .name _ => kNa | .num _ => kNu | .sign _ => kSi
def Pc.v : Pc → D
  | .word w => .str w | .name w => .str w | .num n => .int n | .sign w => .str w
def NmL (w : LC) : Prop := (∃ c r, w = c :: r ∧ LET.contains c = true) ∧ (∀ c ∈ w, NCH.contains c = true) ∧ w.length ≤ 20
def Pc.ok : Pc → Prop
  | .word w => w ∈ RES
  | .name w => NmL w ∧ w ∉ RES
  | .num n => n ≤ 65535
  | .sign w => w ∈ SIG
def nmB (w : LC) : Bool := (match w with | c :: _ => LET.contains c | [] => false) && w.all NCH.contains && decide (w.length ≤ 20)
theorem nmB_ok {w : LC} (h : nmB w = true) : NmL w := by
  unfold nmB at h
  simp only [Bool.and_eq_true, decide_eq_true_eq, List.all_eq_true] at h
  refine ⟨?_, h.1.2, h.2⟩
  cases w with
  | nil => simp at h
  | cons c r => exact ⟨c, r, rfl, h.1.1⟩
theorem res_nm {w : LC} (h : w ∈ RES) : NmL w := by
  have : RES.all nmB = true := by decide +kernel
  exact nmB_ok (List.all_eq_true.mp this w h)
def sgc (c : Char) : Bool := ['=', '<', '+', '-', '*', '~', '.', ',', ':', ';', '(', ')', '{', '}'].contains c
theorem sig_ch {w : LC} (h : w ∈ SIG) : ∃ c r, w = c :: r ∧ sgc c = true := by
  have : SIG.all (fun w => match w with | c :: _ => sgc c | [] => false) = true := by decide +kernel
  have := List.all_eq_true.mp this w h
  cases w with
  | nil => simp at this
  | cons c r => exact ⟨c, r, rfl, this⟩
/-- a piece's first sign -/
theorem Pc.head {p : Pc} (h : p.ok) : ∃ c r, p.t = c :: r ∧ (match p with | .word _ => LET.contains c = true | .name _ => LET.contains c = true | .num _ => DIG.contains c = true | .sign _ => sgc c = true) := by
  cases p with
  | word w => obtain ⟨c, r, e, q⟩ := (res_nm h).1; exact ⟨c, r, e, q⟩
  | name w => obtain ⟨c, r, e, q⟩ := h.1.1; exact ⟨c, r, e, q⟩
  | num n =>
    cases e : dgs n with
    | nil => exact absurd e (dgs_ne n)
    | cons c r => exact ⟨c, r, e, dgs_dig c (by rw [e]; simp)⟩
  | sign w => obtain ⟨c, r, e, q⟩ := sig_ch h; exact ⟨c, r, e, q⟩
theorem let_no {c : Char} (h : LET.contains c = true) : blc c = false := by
  have : LET.all (fun c => !blc c) = true := by decide +kernel
  have := List.all_eq_true.mp this c (List.contains_iff_mem.mp h)
  simpa using this
theorem dig_no {c : Char} (h : DIG.contains c = true) : blc c = false ∧ LET.contains c = false := by
  have : DIG.all (fun c => !blc c && !LET.contains c) = true := by decide +kernel
  have := List.all_eq_true.mp this c (List.contains_iff_mem.mp h)
  simp only [Bool.and_eq_true, Bool.not_eq_true'] at this
  exact this
theorem sg_no {c : Char} (h : sgc c = true) : blc c = false ∧ LET.contains c = false ∧ DIG.contains c = false ∧ NCH.contains c = false := by
  have : ['=', '<', '+', '-', '*', '~', '.', ',', ':', ';', '(', ')', '{', '}'].all (fun c => !blc c && !LET.contains c && !DIG.contains c && !NCH.contains c) = true := by decide +kernel
  have := List.all_eq_true.mp this c (List.contains_iff_mem.mp h)
  simp only [Bool.and_eq_true, Bool.not_eq_true'] at this
  exact ⟨this.1.1.1, this.1.1.2, this.1.2, this.2⟩
theorem Pc.blk {p : Pc} (h : p.ok) (tail : LC) : hd? (p.t ++ tail) blc = false := by
  obtain ⟨c, r, e, q⟩ := p.head h
  rw [e]
  show blc c = false
  cases p with
  | word _ => exact let_no q
  | name _ => exact let_no q
  | num _ => exact (dig_no q).1
  | sign _ => exact (sg_no q).1
/-- what may follow -/
def tc (p : Pc) (tail : LC) : Prop := match p with
  | .sign w => (w = ['='] ∨ w = ['<']) → hd? tail (· == '=') = false
  | _ => hd? tail NCH.contains = false
theorem Pc.len {p : Pc} (h : p.ok) : p.t.length ≤ 20 ∧ 0 < p.t.length := by
  obtain ⟨c, r, e, _⟩ := p.head h
  refine ⟨?_, by rw [e]; simp⟩
  cases p with
  | word w => exact (res_nm h).2.2
  | name w => exact h.1.2.2
  | num n => have := dgs_len h; show (dgs n).length ≤ 20; omega
  | sign w =>
    have : ∀ w ∈ SIG, w.length ≤ 20 := by decide
    exact this w h
variable {W : Wd} (hW : Has W) (hK : HasK W) (L : Nat)
section
include hW hK
theorem token_ok (hL : 20001 ≤ L) (N : Nat) (hN : 3 ≤ N) {p : Pc} (hp : p.ok) (pre tail s : LC) (h : Hs) (hs : s = pre ++ (p.t ++ tail)) (hl : s.length ≤ 20000) (ht : tc p tail) :
    callF W L N 13 [.str s, .int (pre.length : Int)] h = .ok (.tup [.str p.k, p.v, .int ((pre.length + p.t.length : Nat) : Int)]) h := by
  obtain ⟨M, rfl⟩ : ∃ M, N = M + 1 := ⟨N - 1, by omega⟩
  rw [callF_s (hW 13 _ (by decide) rfl) rfl]
  obtain ⟨c, r, e, q⟩ := p.head hp
  have e1 := ix_at (cs := W.cons) (h := h) (s := s) (pre := pre) (r := r ++ tail) (c := c) (by rw [hs, e]; simp) hl
  have es : Rf.start f_read_token.ns [D.str s, .int (pre.length : Int)] = [some (.str s), some (.int (pre.length : Int))] := rfl
  have eb : f_read_token.body = [.ife (.cmp .in_ (.ix (.var 0) (.var 1)) (.gst 2 LET)) [.ret (.cal 12 [(.var 0), (.var 1)])] [], .ife (.cmp .in_ (.ix (.var 0) (.var 1)) (.gst 1 DIG)) [.ret (.cal 11 [(.var 0), (.var 1)])] [], .ret (.cal 10 [(.var 0), (.var 1)])] := rfl
  rw [es, eb]
  have i1 := in_str (cs := W.cons) (h := h) (c := c) (z := LET)
  have i2 := in_str (cs := W.cons) (h := h) (c := c) (z := DIG)
  cases p with
  | word w =>
    have n := res_nm hp
    have e2 := word_ok hW hK L hL M (by omega) w pre tail s h hs hl n.2.1 n.2.2 ht
    have hp' : w ∈ RES := hp
    rw [if_pos hp'] at e2
    have q' : LET.contains c = true := q
    rw [q'] at i1
    simp only [Pc.t, Pc.k, Pc.v] at e2 ⊢
    generalize pre.length + w.length = k at e2 ⊢
    generalize LET = z at i1 ⊢
    simp [q_set, q_put, q_expr, q_ret, q_retN, q_ife, q_cons, q_nil, q_cst, q_bin, q_neg, q_cmp, q_and, q_or, q_not, q_eife, q_tup, q_lst, q_dic, q_ix, q_slc, q_cal, q_blt, q_enil, q_econs, q_met, q_raise, q_gst, q_gni, q_glb, r_for, r_lc, r_var, r_ix_ob, r_sl_ob, r_put_ob, r_len_ob, r_tup_ob, r_lst_ob, r_addl, r_app, r_it_ob, r_in_ob, r_nin_ob, optI, Rf.start, e1, i1, e2]
  | name w =>
    have n := hp.1
    have e2 := word_ok hW hK L hL M (by omega) w pre tail s h hs hl n.2.1 n.2.2 ht
    rw [if_neg hp.2] at e2
    have q' : LET.contains c = true := q
    rw [q'] at i1
    simp only [Pc.t, Pc.k, Pc.v] at e2 ⊢
    generalize pre.length + w.length = k at e2 ⊢
    generalize LET = z at i1 ⊢
    simp [q_set, q_put, q_expr, q_ret, q_retN, q_ife, q_cons, q_nil, q_cst, q_bin, q_neg, q_cmp, q_and, q_or, q_not, q_eife, q_tup, q_lst, q_dic, q_ix, q_slc, q_cal, q_blt, q_enil, q_econs, q_met, q_raise, q_gst, q_gni, q_glb, r_for, r_lc, r_var, r_ix_ob, r_sl_ob, r_put_ob, r_len_ob, r_tup_ob, r_lst_ob, r_addl, r_app, r_it_ob, r_in_ob, r_nin_ob, optI, Rf.start, e1, i1, e2]
  | num n =>
    have e2 := number_ok hW L hL M (by omega) n hp pre tail s h hs hl ht
    have q' : DIG.contains c = true := q
    rw [q'] at i2
    rw [(dig_no q').2] at i1
    simp only [Pc.t, Pc.k, Pc.v] at e2 ⊢
    generalize pre.length + (dgs n).length = k at e2 ⊢
    generalize LET = z at i1 ⊢
    generalize DIG = z' at i2 ⊢
    simp [q_set, q_put, q_expr, q_ret, q_retN, q_ife, q_cons, q_nil, q_cst, q_bin, q_neg, q_cmp, q_and, q_or, q_not, q_eife, q_tup, q_lst, q_dic, q_ix, q_slc, q_cal, q_blt, q_enil, q_econs, q_met, q_raise, q_gst, q_gni, q_glb, r_for, r_lc, r_var, r_ix_ob, r_sl_ob, r_put_ob, r_len_ob, r_tup_ob, r_lst_ob, r_addl, r_app, r_it_ob, r_in_ob, r_nin_ob, optI, Rf.start, e1, i1, i2, e2]
  | sign w =>
    have e2 := sign_ok hW hK L M (by omega) hp pre tail s h hs ht
    have q' : sgc c = true := q
    rw [(sg_no q').2.2.1] at i2
    rw [(sg_no q').2.1] at i1
    simp only [Pc.t, Pc.k, Pc.v] at e2 ⊢
    generalize pre.length + w.length = k at e2 ⊢
    generalize LET = z at i1 ⊢
    generalize DIG = z' at i2 ⊢
    simp [q_set, q_put, q_expr, q_ret, q_retN, q_ife, q_cons, q_nil, q_cst, q_bin, q_neg, q_cmp, q_and, q_or, q_not, q_eife, q_tup, q_lst, q_dic, q_ix, q_slc, q_cal, q_blt, q_enil, q_econs, q_met, q_raise, q_gst, q_gni, q_glb, r_for, r_lc, r_var, r_ix_ob, r_sl_ob, r_put_ob, r_len_ob, r_tup_ob, r_lst_ob, r_addl, r_app, r_it_ob, r_in_ob, r_nin_ob, optI, Rf.start, e1, i1, i2, e2]
end
/-! ### texts -/
def SPC : List LC := [[], [' '], ['\n'], ['\t'], [' ', ' ', '\n', ' '], [' ', '#', ' ', 'a', ' ', '=', '=', ' ', '(', 'b', '\n'], ['#', '\n'], [' ']]
theorem spc_bl {s : LC} (h : s ∈ SPC) : BL s := by
  have b1 : BL [' '] := .blk (by decide) .nil
  have b2 : BL ['\n'] := .blk (by decide) .nil
  simp only [SPC, List.mem_cons, List.not_mem_nil, or_false] at h
  rcases h with rfl | rfl | rfl | rfl | rfl | rfl | rfl | rfl
  · exact .nil
  · exact b1
  · exact b2
  · exact .blk (by decide) .nil
  · exact .blk (by decide) (.blk (by decide) (.blk (by decide) b1))
  · exact .blk (by decide) (.com (b := [' ', 'a', ' ', '=', '=', ' ', '(', 'b']) (r := []) (by decide) b2)
  · exact .com (b := []) (r := []) (by decide) b2
  · exact b1
theorem spc_hd {s : LC} (h : s ∈ SPC) (hs : s ≠ []) (tail : LC) : hd? (s ++ tail) NCH.contains = false ∧ hd? (s ++ tail) (· == '=') = false := by
  simp only [SPC, List.mem_cons, List.not_mem_nil, or_false] at h
  rcases h with rfl | rfl | rfl | rfl | rfl | rfl | rfl | rfl
  · exact absurd rfl hs
  all_goals
    simp only [List.cons_append, hd?]
    decide
theorem spc_len {s : LC} (h : s ∈ SPC) : s.length ≤ 11 := by
  have : ∀ s ∈ SPC, s.length ≤ 11 := by decide
  exact this s h
/-- do two texts join -/
def jnB (l r : LC) : Bool := ((match l.getLast? with | some c => NCH.contains c | none => false) && (match r with | c :: _ => NCH.contains c | [] => false)) || ((l == ['='] || l == ['<']) && (match r with | c :: _ => c == '=' | [] => false))
abbrev Qs := List (Pc × LC)
def tx : Qs → LC
  | [] => []
  | x :: r => x.1.t ++ (x.2 ++ tx r)
def okQ : Qs → Prop
  | [] => True
  | x :: r => x.1.ok ∧ x.2 ∈ SPC ∧ (x.2 = [] → ∀ y ∈ r.head?, jnB x.1.t y.1.t = false) ∧ okQ r
def toks (n : Nat) : Qs → List D
  | [] => []
  | x :: r => .tup [.str x.1.k, x.1.v, .int (n : Int)] :: toks (n + x.1.t.length + x.2.length) r
theorem tx_blk {qs : Qs} (h : okQ qs) : hd? (tx qs) blc = false := by
  cases qs with
  | nil => rfl
  | cons x r => exact x.1.blk h.1 _
theorem Pc.last {p : Pc} (h : p.ok) (hs : ∀ w, p ≠ .sign w) : ∃ c, p.t.getLast? = some c ∧ NCH.contains c = true := by
  have all : ∀ c ∈ p.t, NCH.contains c = true := by
    cases p with
    | word w => exact (res_nm h).2.1
    | name w => exact h.1.2.1
    | num n => exact fun c hc => List.contains_iff_mem.mpr (List.mem_cons_of_mem _ (List.mem_append_left (as := DIG) LET (List.contains_iff_mem.mp (dgs_dig c hc))))
    | sign w => exact absurd rfl (hs w)
  obtain ⟨c, r, e, _⟩ := p.head h
  have ne : p.t ≠ [] := by rw [e]; simp
  exact ⟨p.t.getLast ne, List.getLast?_eq_some_getLast ne, all _ (List.getLast_mem ne)⟩
theorem tail_ok {x : Pc × LC} {r : Qs} (h : okQ (x :: r)) : tc x.1 (x.2 ++ tx r) := by
  obtain ⟨h1, h2, h3, h4⟩ := h
  by_cases hs : x.2 = []
  · have h3 := h3 hs
    rw [hs, List.nil_append]
    cases r with
    | nil =>
      unfold tc
      cases x.1 <;> first | rfl | (intro _; rfl)
    | cons y r =>
      have j := h3 y rfl
      obtain ⟨c, rr, e, _⟩ := y.1.head h4.1
      have et : tx (y :: r) = c :: (rr ++ (y.2 ++ tx r)) := by simp [tx, e]
      rw [et]
      unfold jnB at j
      rw [Bool.or_eq_false_iff, e] at j
      have notsign : (∀ w, x.1 ≠ .sign w) → NCH.contains c = false := by
        intro hn
        obtain ⟨d, e1, e2⟩ := x.1.last h1 hn
        have j1 := j.1
        rw [e1] at j1
        have j2 : (NCH.contains d && NCH.contains c) = false := j1
        rw [e2, Bool.true_and] at j2
        exact j2
      cases hx : x.1 with
      | sign w =>
        intro hw
        have j2 := j.2
        rw [hx] at j2
        show (c == '=') = false
        rcases hw with rfl | rfl
        · simpa [Pc.t] using j2
        · simpa [Pc.t] using j2
      | word w => exact notsign (by rw [hx]; simp)
      | name w => exact notsign (by rw [hx]; simp)
      | num w => exact notsign (by rw [hx]; simp)
  · have q := spc_hd h2 hs (tx r)
    unfold tc
    cases x.1 with
    | sign w => exact fun _ => q.2
    | _ => exact q.1
end K01
end

section
namespace K01
open PySem PySem.Spec PyProof.Rows L2 Rf
variable {W : Wd} (hW : Has W) (hK : HasK W) (L : Nat)
section
include hW
theorem takeN (N p q : Nat) (hN : 2 ≤ N) (ns : List Int) (m : Int) (hm : 0 < m) (hm2 : m < 1073741824) (h : Hs) (P : PO p q ns h) :
    ∃ (v : Int) (h' : Hs), callF W L N 1 [.ob p, .int m] h = .ok (.int v) h' ∧ 0 ≤ v ∧ v < m ∧ PO p q ns h' ∧ Kp p h h' := by
  obtain ⟨n, rfl⟩ : ∃ n, N = n + 2 := ⟨N - 2, by omega⟩
  exact take_ok hW L n p q ns m hm hm2 h P
theorem PO.kx {p q : Nat} {ns : List Int} {h h' : Hs} (P : PO p q ns h) (k : Kx h h') : PO p q ns h' := by
  obtain ⟨h0, a, c, hk, f1, f2⟩ := P
  exact ⟨h0, a, c, hk, k.2 _ _ f1, k.2 _ _ f2⟩
theorem res_ok (N : Nat) (hN : 1 ≤ N) (h : Hs) : ∃ z h', callF W L N 9 [] h = .ok (.ob z) h' ∧ h'[z]? = some (.lst (RES.map D.str)) ∧ Kx h h' ∧ h.length ≤ z := by
  obtain ⟨M, rfl⟩ : ∃ M, N = M + 1 := ⟨N - 1, by omega⟩
  rw [callF_s (hW 9 _ (by decide) rfl) rfl]
  obtain ⟨a, ea⟩ : ∃ a, a = (RES.take 12).map D.str := ⟨_, rfl⟩
  obtain ⟨b, eb⟩ : ∃ b, b = (RES.drop 12).map D.str := ⟨_, rfl⟩
  have l1 : (h ++ [MO.lst a])[h.length]? = some (.lst a) := lk_new
  have l2 : ((h ++ [MO.lst a]) ++ [MO.lst b])[h.length]? = some (.lst a) := lk_app l1
  have l3 : ((h ++ [MO.lst a]) ++ [MO.lst b])[h.length + 1]? = some (.lst b) := by
    have := lk_new (h := h ++ [MO.lst a]) (o := .lst b)
    rw [List.length_append] at this
    exact this
  have eab : a ++ b = RES.map D.str := by rw [ea, eb]; rfl
  have al : a.length + b.length ≤ 16777216 := by rw [ea, eb]; decide
  have s1 : evalS W L (callF W L M) none (f__law_reserved.body.getD 0 .pass) (Rf.start f__law_reserved.ns []) h = .ok (.nx [some (.ob h.length)]) (h ++ [.lst a]) := by
    rw [ea]
    show evalS W L (callF W L M) none (.set 0 (.lst ((RES.take 12).map fun s => .cst (.str s)))) [none] h = _
    rw [q_set]
    have : ∀ (l : List LC) (σ : Sg) (h : Hs), evalEs W (callF W L M) none (l.map fun s => E.cst (.str s)) σ h = .ok (l.map D.str) h := by
      intro l
      induction l with
      | nil => intro σ h; rw [List.map_nil, q_enil]; rfl
      | cons x l ih => intro σ h; rw [List.map_cons, q_econs, q_cst, R.bind_ok, ih, R.bind_ok]; rfl
    rw [q_lst, this, R.bind_ok, if_pos (by decide), R.stm_ok]
    rfl
  have s2 : evalE W (callF W L M) none (.lst ((RES.drop 12).map fun s => .cst (.str s))) [some (.ob h.length)] (h ++ [.lst a]) = .ok (.ob (h.length + 1)) ((h ++ [.lst a]) ++ [.lst b]) := by
    have : ∀ (l : List LC) (σ : Sg) (h : Hs), evalEs W (callF W L M) none (l.map fun s => E.cst (.str s)) σ h = .ok (l.map D.str) h := by
      intro l
      induction l with
      | nil => intro σ h; rw [List.map_nil, q_enil]; rfl
      | cons x l ih => intro σ h; rw [List.map_cons, q_econs, q_cst, R.bind_ok, ih, R.bind_ok]; rfl
    rw [q_lst, this, R.bind_ok, if_pos (by decide), eb]
    simp
  refine ⟨h.length + 2, ((h ++ [.lst a]) ++ [.lst b]) ++ [.lst (RES.map D.str)], ?_, ?_, (Kx.app.trans Kx.app).trans Kx.app, by omega⟩
  · have ebd : f__law_reserved.body = [f__law_reserved.body.getD 0 .pass, .ret (.bin .add (.var 0) (.lst ((RES.drop 12).map fun s => .cst (.str s))))] := rfl
    rw [ebd, q_cons, s1, RS.then_nx, q_cons, q_ret, q_bin]
    have v0 : evalE W (callF W L M) none (.var 0) [some (.ob h.length)] (h ++ [.lst a]) = .ok (.ob h.length) (h ++ [.lst a]) := by simp [q_set, q_put, q_expr, q_ret, q_retN, q_ife, q_cons, q_nil, q_cst, q_bin, q_neg, q_cmp, q_and, q_or, q_not, q_eife, q_tup, q_lst, q_dic, q_ix, q_slc, q_cal, q_blt, q_enil, q_econs, q_met, q_raise, q_gst, q_gni, q_glb, r_for, r_lc, r_var, r_ix_ob, r_sl_ob, r_put_ob, r_len_ob, r_tup_ob, r_lst_ob, r_addl, r_app, r_it_ob, r_in_ob, r_nin_ob, optI, Rf.start]
    rw [v0, R.bind_ok, s2, R.bind_ok, r_addl, l2, l3, catO_l, if_pos (by simpa [sizeLine] using al), eab]
    simp
  · have := lk_new (h := (h ++ [MO.lst a]) ++ [MO.lst b]) (o := .lst (RES.map D.str))
    simpa using this
theorem numb_ok (N p q : Nat) (hN : 3 ≤ N) (ns : List Int) (h : Hs) (P : PO p q ns h) : ∃ (n : Nat) (h' : Hs), callF W L N 7 [.ob p] h = .ok (.int n) h' ∧ n ≤ 65535 ∧ PO p q ns h' ∧ Kp p h h' := by
  obtain ⟨M, rfl⟩ : ∃ M, N = M + 1 := ⟨N - 1, by omega⟩
  rw [callF_s (hW 7 _ (by decide) rfl) rfl]
  obtain ⟨v, h1, e1, a1, b1, P1, k1⟩ := takeN hW L M p q (by omega) ns 65536 (by decide) (by decide) h P
  have pl := P1.lt
  obtain ⟨i, h2, e2, a2, b2, P2, k2⟩ := takeN hW L M p q (by omega) ns 8 (by decide) (by decide) (h1 ++ [.lst [.int 0, .int 1, .int 9, .int 10, .int 65535, .int 4096, .int 305, .int v]]) P1.app
  have l2 := k2.2 h1.length _ (by omega) lk_new
  obtain ⟨x, hx, ex⟩ := atI_some (xs := [D.int 0, .int 1, .int 9, .int 10, .int 65535, .int 4096, .int 305, .int v]) a2 (by simpa using b2)
  obtain ⟨n, rfl, hn⟩ : ∃ n : Nat, x = .int n ∧ n ≤ 65535 := by
    simp only [List.mem_cons, List.not_mem_nil, or_false] at hx
    rcases hx with rfl | rfl | rfl | rfl | rfl | rfl | rfl | rfl
    · exact ⟨0, rfl, by omega⟩
    · exact ⟨1, rfl, by omega⟩
    · exact ⟨9, rfl, by omega⟩
    · exact ⟨10, rfl, by omega⟩
    · exact ⟨65535, rfl, by omega⟩
    · exact ⟨4096, rfl, by omega⟩
    · exact ⟨305, rfl, by omega⟩
    · exact ⟨v.toNat, by rw [Int.toNat_of_nonneg a1], by omega⟩
  refine ⟨n, h2, ?_, hn, P2, k1.trans (Kp.app.trans k2)⟩
  simp [q_set, q_put, q_expr, q_ret, q_retN, q_ife, q_cons, q_nil, q_cst, q_bin, q_neg, q_cmp, q_and, q_or, q_not, q_eife, q_tup, q_lst, q_dic, q_ix, q_slc, q_cal, q_blt, q_enil, q_econs, q_met, q_raise, q_gst, q_gni, q_glb, r_for, r_lc, r_var, r_ix_ob, r_sl_ob, r_put_ob, r_len_ob, r_tup_ob, r_lst_ob, r_addl, r_app, r_it_ob, r_in_ob, r_nin_ob, optI, Rf.start, f__law_number, e1, e2, l2, ex, sizeLine]
/-- letters drawn one behind the other -/
abbrev EXT : LC := LET ++ ['0', '1', '2', '3', '4', '5', '6', '7', '8', '9', '_']
theorem ext_in {c : Char} (h : c ∈ EXT) : NCH.contains c = true := by
  have : EXT.all NCH.contains = true := by decide +kernel
  exact List.all_eq_true.mp this c h
theorem ix_str {z : LC} {v : Int} {cs : List (List D)} {h : Hs} (h0 : 0 ≤ v) (h1 : v < z.length) (hl : z.length ≤ 16777216) : ∃ c, c ∈ z ∧ ixD cs (.str z) (.int v) h = .ok (.str [c]) h := by
  obtain ⟨c, hc, e⟩ := atI_some h0 h1
  refine ⟨c, hc, ?_⟩
  simp only [ixD]
  rw [if_pos (by simpa [sizeLine] using hl), e]
  rfl
abbrev bodyN : List S := [.set 2 (.bin .add (.var 2) (.ix (.bin .add (.var 1) (.cst (.str ['0', '1', '2', '3', '4', '5', '6', '7', '8', '9', '_']))) (.cal 1 [(.var 0), (.cst (.int 63))])))]
theorem name_loop (M p q : Nat) (hM : 2 ≤ M) (ns : List Int) : ∀ (ds : List D) (w : LC) (s3 : Option D) (h : Hs), NmL w → w.length + ds.length ≤ 20 → PO p q ns h →
    ∃ (w' : LC) (s3' : Option D) (h' : Hs), forI .none (fT W L (callF W L M) (.nm 3) bodyN) ds [some (.ob p), some (.str LET), some (.str w), s3] h = .ok (.nx [some (.ob p), some (.str LET), some (.str w'), s3']) h' ∧ NmL w' ∧ PO p q ns h' ∧ Kp p h h' := by
  intro ds
  induction ds with
  | nil => intro w s3 h hw hl P; exact ⟨w, s3, h, forI_nil (by trivial), hw, P, Kp.refl⟩
  | cons d ds ih =>
    intro w s3 h hw hl P
    obtain ⟨v, h1, e1, a1, b1, P1, k1⟩ := takeN hW L M p q hM ns 63 (by decide) (by decide) h P
    obtain ⟨c, hc, ec⟩ := ix_str hW (z := EXT) (cs := W.cons) (h := h1) a1 (by simpa using b1) (by decide)
    have hw2 : NmL (w ++ [c]) := by
      obtain ⟨⟨x, r, e, hx⟩, a, b⟩ := hw
      refine ⟨⟨x, r ++ [c], by rw [e]; rfl, hx⟩, fun y hy => ?_, by simp at hl ⊢; omega⟩
      rcases List.mem_append.mp hy with hy | hy
      · exact a y hy
      · rw [List.mem_singleton] at hy; subst hy; exact ext_in hW hc
    obtain ⟨w', s3', h', e9, r1, r2, r3⟩ := ih (w ++ [c]) (some d) h1 hw2 (by simp at hl ⊢; omega) P1
    refine ⟨w', s3', h', ?_, r1, r2, k1.trans r3⟩
    rw [forI_nx (h' := h1) (σ' := [some (.ob p), some (.str LET), some (.str (w ++ [c])), some d]) (by trivial) ?_]
    · exact e9
    · rw [fT_some (σ1 := [some (.ob p), some (.str LET), some (.str w), some d]) rfl]
      have ad : ∀ h : Hs, opD .add (.str LET) (.str ['0', '1', '2', '3', '4', '5', '6', '7', '8', '9', '_']) h = .ok (.str EXT) h := by
        intro h
        rw [r_adds, if_pos (by decide)]
      have wl : w.length + 1 ≤ 16777216 := by simp at hl; omega
      have v1 : evalE W (callF W L M) none (.var 1) [some (.ob p), some (.str LET), some (.str w), some d] h = .ok (.str LET) h := by
        generalize LET = z
        simp [q_set, q_put, q_expr, q_ret, q_retN, q_ife, q_cons, q_nil, q_cst, q_bin, q_neg, q_cmp, q_and, q_or, q_not, q_eife, q_tup, q_lst, q_dic, q_ix, q_slc, q_cal, q_blt, q_enil, q_econs, q_met, q_raise, q_gst, q_gni, q_glb, r_for, r_lc, r_var, r_ix_ob, r_sl_ob, r_put_ob, r_len_ob, r_tup_ob, r_lst_ob, r_addl, r_app, r_it_ob, r_in_ob, r_nin_ob, optI, Rf.start]
      have c1 : evalE W (callF W L M) none (.cal 1 [(.var 0), (.cst (.int 63))]) [some (.ob p), some (.str LET), some (.str w), some d] h = .ok (.int v) h1 := by
        generalize LET = z
        simp [q_set, q_put, q_expr, q_ret, q_retN, q_ife, q_cons, q_nil, q_cst, q_bin, q_neg, q_cmp, q_and, q_or, q_not, q_eife, q_tup, q_lst, q_dic, q_ix, q_slc, q_cal, q_blt, q_enil, q_econs, q_met, q_raise, q_gst, q_gni, q_glb, r_for, r_lc, r_var, r_ix_ob, r_sl_ob, r_put_ob, r_len_ob, r_tup_ob, r_lst_ob, r_addl, r_app, r_it_ob, r_in_ob, r_nin_ob, optI, Rf.start, e1]
      have ei : evalE W (callF W L M) none (.ix (.bin .add (.var 1) (.cst (.str ['0', '1', '2', '3', '4', '5', '6', '7', '8', '9', '_']))) (.cal 1 [(.var 0), (.cst (.int 63))])) [some (.ob p), some (.str LET), some (.str w), some d] h = .ok (.str [c]) h1 := by
        rw [q_ix, q_bin, v1, R.bind_ok, q_cst, R.bind_ok, ad, R.bind_ok, c1, R.bind_ok, ec]
      have v2 : evalE W (callF W L M) none (.var 2) [some (.ob p), some (.str LET), some (.str w), some d] h = .ok (.str w) h := by
        generalize LET = z
        simp [q_set, q_put, q_expr, q_ret, q_retN, q_ife, q_cons, q_nil, q_cst, q_bin, q_neg, q_cmp, q_and, q_or, q_not, q_eife, q_tup, q_lst, q_dic, q_ix, q_slc, q_cal, q_blt, q_enil, q_econs, q_met, q_raise, q_gst, q_gni, q_glb, r_for, r_lc, r_var, r_ix_ob, r_sl_ob, r_put_ob, r_len_ob, r_tup_ob, r_lst_ob, r_addl, r_app, r_it_ob, r_in_ob, r_nin_ob, optI, Rf.start]
      rw [q_cons, q_set, q_bin, v2, R.bind_ok, ei, R.bind_ok, r_adds, if_pos (by simpa [sizeLine] using wl), R.stm_ok, RS.then_nx, q_nil]
      rfl
theorem name_draw (N p q : Nat) (hN : 3 ≤ N) (ns : List Int) (h : Hs) (P : PO p q ns h) : ∃ (w : LC) (h' : Hs), callF W L N 8 [.ob p] h = .ok (.str w) h' ∧ NmL w ∧ w ∉ RES ∧ PO p q ns h' ∧ Kp p h h' := by
  obtain ⟨M, rfl⟩ : ∃ M, N = M + 1 := ⟨N - 1, by omega⟩
  rw [callF_s (hW 8 _ (by decide) rfl) rfl]
  have FX : ∀ F : List D, F = [D.str ['e', 'n', 'd', '_'], .str ['s', 'a', 'y', '1'], .str ['T', 'a', 'l', 'k'], .str ['n', 'o', 't', 's'], .str ['o', 'r', '_'], .str ['x'], .str ['c'], .str ['e', 'n', 'd', 'i', 'n', 'g']] → ∀ x ∈ F, ∃ w, x = .str w ∧ NmL w := by
    rintro F rfl x hx
    simp only [List.mem_cons, List.not_mem_nil, or_false] at hx
    rcases hx with rfl | rfl | rfl | rfl | rfl | rfl | rfl | rfl <;> exact ⟨_, rfl, nmB_ok (by decide)⟩
  obtain ⟨F, eF⟩ : ∃ F, F = [D.str ['e', 'n', 'd', '_'], .str ['s', 'a', 'y', '1'], .str ['T', 'a', 'l', 'k'], .str ['n', 'o', 't', 's'], .str ['o', 'r', '_'], .str ['x'], .str ['c'], .str ['e', 'n', 'd', 'i', 'n', 'g']] := ⟨_, rfl⟩
  have F8 : F.length = 8 := by rw [eF]; rfl
  have pl := P.lt
  obtain ⟨v, h1, e1, a1, b1, P1, k1⟩ := takeN hW L M p q (by omega) ns 8 (by decide) (by decide) (h ++ [.lst F]) P.app
  have l1 := k1.2 h.length _ (by omega) lk_new
  obtain ⟨x, hx, ex⟩ := atI_some (xs := F) a1 (by rw [F8]; exact b1)
  obtain ⟨w0, rfl, hw0⟩ := FX F eF x hx
  obtain ⟨u, h2, e2, a2, b2, P2, k2⟩ := takeN hW L M p q (by omega) ns 3 (by decide) (by decide) h1 P1
  -- the last steps
  have fin : ∀ (w : LC) (s3 : Option D) (h3 : Hs), NmL w → PO p q ns h3 → ∃ (w' : LC) (h' : Hs), (evalB W L (callF W L M) none [.ife (.cmp .in_ (.var 2) (.cal 9 [])) [.set 2 (.bin .add (.var 2) (.cst (.str ['_'])))] [], .ret (.var 2)] [some (.ob p), some (.str LET), some (.str w), s3] h3).fin = .ok (.str w') h' ∧ NmL w' ∧ w' ∉ RES ∧ PO p q ns h' ∧ Kp p h3 h' := by
    intro w s3 h3 hw P3
    obtain ⟨z, h4, e4, z4, k4, _⟩ := res_ok hW L M (by omega) h3
    have fl := strs_flat RES
    have il := inL_strs w RES
    have fw : flat (.str w) = true := rfl
    by_cases hr : w ∈ RES
    · rw [decide_eq_true hr] at il
      have wl : w.length ≤ 6 := by
        have : ∀ w ∈ RES, w.length ≤ 6 := by decide +kernel
        exact this w hr
      refine ⟨w ++ ['_'], h4, ?_, ?_, ?_, P3.kx hW k4, k4.kp⟩
      · have wl2 : w.length + 1 ≤ 16777216 := by omega
        generalize RES.map D.str = R at z4 fl il
        generalize LET = zz
        simp [q_set, q_put, q_expr, q_ret, q_retN, q_ife, q_cons, q_nil, q_cst, q_bin, q_neg, q_cmp, q_and, q_or, q_not, q_eife, q_tup, q_lst, q_dic, q_ix, q_slc, q_cal, q_blt, q_enil, q_econs, q_met, q_raise, q_gst, q_gni, q_glb, r_for, r_lc, r_var, r_ix_ob, r_sl_ob, r_put_ob, r_len_ob, r_tup_ob, r_lst_ob, r_addl, r_app, r_it_ob, r_in_ob, r_nin_ob, optI, Rf.start, e4, z4, fl, il, fw, wl2, sizeLine]
      · obtain ⟨⟨c, r, e, hc⟩, a, b⟩ := hw
        refine ⟨⟨c, r ++ ['_'], by rw [e]; rfl, hc⟩, fun y hy => ?_, by simp; omega⟩
        rcases List.mem_append.mp hy with hy | hy
        · exact a y hy
        · rw [List.mem_singleton] at hy; subst hy; decide
      · intro q
        have : ∀ w ∈ RES, w.getLast? ≠ some '_' := by decide +kernel
        exact this _ q (by simp)
    · rw [decide_eq_false hr] at il
      refine ⟨w, h4, ?_, hw, hr, P3.kx hW k4, k4.kp⟩
      generalize RES.map D.str = R at z4 fl il
      generalize LET = zz
      simp [q_set, q_put, q_expr, q_ret, q_retN, q_ife, q_cons, q_nil, q_cst, q_bin, q_neg, q_cmp, q_and, q_or, q_not, q_eife, q_tup, q_lst, q_dic, q_ix, q_slc, q_cal, q_blt, q_enil, q_econs, q_met, q_raise, q_gst, q_gni, q_glb, r_for, r_lc, r_var, r_ix_ob, r_sl_ob, r_put_ob, r_len_ob, r_tup_ob, r_lst_ob, r_addl, r_app, r_it_ob, r_in_ob, r_nin_ob, optI, Rf.start, e4, z4, fl, il, fw, sizeLine]
  have es : Rf.start f__law_name.ns [D.ob p] = [some (.ob p), none, none, none] := rfl
  have eb : f__law_name.body = [.set 1 (.cst (.str LET)), .set 2 (.ix (.lst [(.cst (.str ['e', 'n', 'd', '_'])), (.cst (.str ['s', 'a', 'y', '1'])), (.cst (.str ['T', 'a', 'l', 'k'])), (.cst (.str ['n', 'o', 't', 's'])), (.cst (.str ['o', 'r', '_'])), (.cst (.str ['x'])), (.cst (.str ['c'])), (.cst (.str ['e', 'n', 'd', 'i', 'n', 'g']))]) (.cal 1 [(.var 0), (.cst (.int 8))])),
    .ife (.cmp .gt (.cal 1 [(.var 0), (.cst (.int 3))]) (.cst (.int 0)))
      [.set 2 (.ix (.var 1) (.cal 1 [(.var 0), (.cst (.int 52))])),
      .for_ (.nm 3) .rng1 [(.ix (.lst [(.cst (.int 0)), (.cst (.int 1)), (.cst (.int 2)), (.cst (.int 3)), (.cst (.int 7)), (.cst (.int 19))]) (.cal 1 [(.var 0), (.cst (.int 6))]))] bodyN] [],
    .ife (.cmp .in_ (.var 2) (.cal 9 [])) [.set 2 (.bin .add (.var 2) (.cst (.str ['_'])))] [], .ret (.var 2)] := rfl
  rw [es, eb]
  have s1 : evalS W L (callF W L M) none (.set 1 (.cst (.str LET))) [some (.ob p), none, none, none] h = .ok (.nx [some (.ob p), some (.str LET), none, none]) h := by
    generalize LET = zz
    simp [q_set, q_put, q_expr, q_ret, q_retN, q_ife, q_cons, q_nil, q_cst, q_bin, q_neg, q_cmp, q_and, q_or, q_not, q_eife, q_tup, q_lst, q_dic, q_ix, q_slc, q_cal, q_blt, q_enil, q_econs, q_met, q_raise, q_gst, q_gni, q_glb, r_for, r_lc, r_var, r_ix_ob, r_sl_ob, r_put_ob, r_len_ob, r_tup_ob, r_lst_ob, r_addl, r_app, r_it_ob, r_in_ob, r_nin_ob, optI, Rf.start]
  have s2 : evalS W L (callF W L M) none (.set 2 (.ix (.lst [(.cst (.str ['e', 'n', 'd', '_'])), (.cst (.str ['s', 'a', 'y', '1'])), (.cst (.str ['T', 'a', 'l', 'k'])), (.cst (.str ['n', 'o', 't', 's'])), (.cst (.str ['o', 'r', '_'])), (.cst (.str ['x'])), (.cst (.str ['c'])), (.cst (.str ['e', 'n', 'd', 'i', 'n', 'g']))]) (.cal 1 [(.var 0), (.cst (.int 8))]))) [some (.ob p), some (.str LET), none, none] h = .ok (.nx [some (.ob p), some (.str LET), some (.str w0), none]) h1 := by
    rw [eF] at e1 l1 ex
    generalize LET = zz
    simp [q_set, q_put, q_expr, q_ret, q_retN, q_ife, q_cons, q_nil, q_cst, q_bin, q_neg, q_cmp, q_and, q_or, q_not, q_eife, q_tup, q_lst, q_dic, q_ix, q_slc, q_cal, q_blt, q_enil, q_econs, q_met, q_raise, q_gst, q_gni, q_glb, r_for, r_lc, r_var, r_ix_ob, r_sl_ob, r_put_ob, r_len_ob, r_tup_ob, r_lst_ob, r_addl, r_app, r_it_ob, r_in_ob, r_nin_ob, optI, Rf.start, e1, l1, ex, sizeLine]
  rw [q_cons, s1, RS.then_nx, q_cons, s2, RS.then_nx]
  by_cases hu : 0 < u
  · obtain ⟨v3, h3, e3, a3, b3, P3, k3⟩ := takeN hW L M p q (by omega) ns 52 (by decide) (by decide) h2 P2
    obtain ⟨c, hc, ec⟩ := ix_str hW (z := LET) (cs := W.cons) (h := h3) a3 (by simpa using b3) (by decide)
    have pl3 := P3.lt
    obtain ⟨v4, h4, e4, a4, b4, P4, k4⟩ := takeN hW L M p q (by omega) ns 6 (by decide) (by decide) (h3 ++ [.lst [.int 0, .int 1, .int 2, .int 3, .int 7, .int 19]]) P3.app
    have l4 := k4.2 h3.length _ (by omega) lk_new
    obtain ⟨x4, hx4, ex4⟩ := atI_some (xs := [D.int 0, .int 1, .int 2, .int 3, .int 7, .int 19]) a4 (by simpa using b4)
    obtain ⟨m, rfl, hm⟩ : ∃ m : Nat, x4 = .int m ∧ m ≤ 19 := by
      simp only [List.mem_cons, List.not_mem_nil, or_false] at hx4
      rcases hx4 with rfl | rfl | rfl | rfl | rfl | rfl
      · exact ⟨0, rfl, by omega⟩
      · exact ⟨1, rfl, by omega⟩
      · exact ⟨2, rfl, by omega⟩
      · exact ⟨3, rfl, by omega⟩
      · exact ⟨7, rfl, by omega⟩
      · exact ⟨19, rfl, by omega⟩
    have hcn : NmL [c] := by
      have hl : LET.contains c = true := List.contains_iff_mem.mpr hc
      exact ⟨⟨c, [], rfl, hl⟩, fun y hy => by rw [List.mem_singleton] at hy; subst hy; exact ext_in hW (List.mem_append_left _ hc), by simp⟩
    obtain ⟨w', s3', h5, e5, n5, P5, k5⟩ := name_loop hW L M p q (by omega) ns ((List.range m).map fun (i : Nat) => D.int (i : Int)) [c] none h4 hcn (by simp; omega) P4
    obtain ⟨w6, h6, e6, r1, r2, r3, r4⟩ := fin w' s3' h5 n5 P5
    refine ⟨w6, h6, ?_, r1, r2, r3, Kp.app.trans (k1.trans (k2.trans (k3.trans (Kp.app.trans (k4.trans (k5.trans r4))))))⟩
    have t0 : evalE W (callF W L M) none (.cmp .gt (.cal 1 [(.var 0), (.cst (.int 3))]) (.cst (.int 0))) [some (.ob p), some (.str LET), some (.str w0), none] h1 = .ok (.bl true) h2 := by
      generalize LET = zz
      simp [q_set, q_put, q_expr, q_ret, q_retN, q_ife, q_cons, q_nil, q_cst, q_bin, q_neg, q_cmp, q_and, q_or, q_not, q_eife, q_tup, q_lst, q_dic, q_ix, q_slc, q_cal, q_blt, q_enil, q_econs, q_met, q_raise, q_gst, q_gni, q_glb, r_for, r_lc, r_var, r_ix_ob, r_sl_ob, r_put_ob, r_len_ob, r_tup_ob, r_lst_ob, r_addl, r_app, r_it_ob, r_in_ob, r_nin_ob, optI, Rf.start, e2, hu]
    have t1 : evalS W L (callF W L M) none (.set 2 (.ix (.var 1) (.cal 1 [(.var 0), (.cst (.int 52))]))) [some (.ob p), some (.str LET), some (.str w0), none] h2 = .ok (.nx [some (.ob p), some (.str LET), some (.str [c]), none]) h3 := by
      generalize LET = zz at ec ⊢
      simp [q_set, q_put, q_expr, q_ret, q_retN, q_ife, q_cons, q_nil, q_cst, q_bin, q_neg, q_cmp, q_and, q_or, q_not, q_eife, q_tup, q_lst, q_dic, q_ix, q_slc, q_cal, q_blt, q_enil, q_econs, q_met, q_raise, q_gst, q_gni, q_glb, r_for, r_lc, r_var, r_ix_ob, r_sl_ob, r_put_ob, r_len_ob, r_tup_ob, r_lst_ob, r_addl, r_app, r_it_ob, r_in_ob, r_nin_ob, optI, Rf.start, e3, ec]
    have it : evalEs W (callF W L M) none [(.ix (.lst [(.cst (.int 0)), (.cst (.int 1)), (.cst (.int 2)), (.cst (.int 3)), (.cst (.int 7)), (.cst (.int 19))]) (.cal 1 [(.var 0), (.cst (.int 6))]))] [some (.ob p), some (.str LET), some (.str [c]), none] h3 = .ok [.int m] h4 := by
      generalize LET = zz
      simp [q_set, q_put, q_expr, q_ret, q_retN, q_ife, q_cons, q_nil, q_cst, q_bin, q_neg, q_cmp, q_and, q_or, q_not, q_eife, q_tup, q_lst, q_dic, q_ix, q_slc, q_cal, q_blt, q_enil, q_econs, q_met, q_raise, q_gst, q_gni, q_glb, r_for, r_lc, r_var, r_ix_ob, r_sl_ob, r_put_ob, r_len_ob, r_tup_ob, r_lst_ob, r_addl, r_app, r_it_ob, r_in_ob, r_nin_ob, optI, Rf.start, e4, l4, ex4, sizeLine]
    rw [q_cons, q_ife, t0, R.stm_ok, r_tbl, R.stm_ok, if_pos rfl, q_cons, t1, RS.then_nx, q_cons, r_for, it, R.stm_ok, rng_small (by omega) (by omega), ofO_some, R.stm_ok, Int.toNat_natCast]
    dsimp only
    rw [e5, RS.then_nx, q_nil, RS.then_nx]
    exact e6
  · have t0 : evalE W (callF W L M) none (.cmp .gt (.cal 1 [(.var 0), (.cst (.int 3))]) (.cst (.int 0))) [some (.ob p), some (.str LET), some (.str w0), none] h1 = .ok (.bl false) h2 := by
      generalize LET = zz
      simp [q_set, q_put, q_expr, q_ret, q_retN, q_ife, q_cons, q_nil, q_cst, q_bin, q_neg, q_cmp, q_and, q_or, q_not, q_eife, q_tup, q_lst, q_dic, q_ix, q_slc, q_cal, q_blt, q_enil, q_econs, q_met, q_raise, q_gst, q_gni, q_glb, r_for, r_lc, r_var, r_ix_ob, r_sl_ob, r_put_ob, r_len_ob, r_tup_ob, r_lst_ob, r_addl, r_app, r_it_ob, r_in_ob, r_nin_ob, optI, Rf.start, e2, hu]
    obtain ⟨w6, h6, e6, r1, r2, r3, r4⟩ := fin w0 none h2 hw0 P2
    refine ⟨w6, h6, ?_, r1, r2, r3, Kp.app.trans (k1.trans (k2.trans r4))⟩
    rw [q_cons, q_ife, t0, R.stm_ok, r_tbl, R.stm_ok, if_neg (by decide), q_nil, RS.then_nx]
    exact e6
end
end K01
end

section
namespace K01
open PySem PySem.Spec PyProof.Rows L2 Rf
abbrev XCH : LC := ['=', '<', '+', '-', '*', '~', '.', ',', ':', ';', '(', ')', '{', '}', '!', '"', '$', '&', '\'', '/', '>', '?', '@', '[', '\\', ']', '^', '`', '|']
def okc (c : Char) : Bool := NCH.contains c || XCH.contains c
/-- a text that may stand in a list of parts -/
def gT (w : LC) : Prop := w ≠ [] ∧ w.length ≤ 40 ∧ ∀ c ∈ w, okc c = true
theorem alnum_c {c : Char} (h : okc c = true) : (Txt.isalnum (Rf.st [c]) || c == '_') = NCH.contains c := by
  have all : (NCH ++ XCH).all (fun c => (Txt.isalnum (Rf.st [c]) || c == '_') == NCH.contains c) = true := by decide +kernel
  unfold okc at h
  rw [Bool.or_eq_true] at h
  have hm : c ∈ NCH ++ XCH := by
    rcases h with h | h
    · exact List.mem_append_left _ (List.contains_iff_mem.mp h)
    · exact List.mem_append_right _ (List.contains_iff_mem.mp h)
  exact beq_iff_eq.mp (List.all_eq_true.mp all c hm)
theorem Pc.all {p : Pc} (h : p.ok) : ∀ c ∈ p.t, okc c = true := by
  intro c hc
  unfold okc
  cases p with
  | word w => rw [(res_nm h).2.1 c hc]; rfl
  | name w => rw [h.1.2.1 c hc]; rfl
  | num n =>
    have : NCH.contains c = true := List.contains_iff_mem.mpr (List.mem_cons_of_mem _ (List.mem_append_left (as := DIG) LET (List.contains_iff_mem.mp (dgs_dig c hc))))
    rw [this]; rfl
  | sign w =>
    have : SIG.all (fun w => w.all XCH.contains) = true := by decide +kernel
    have := List.all_eq_true.mp (List.all_eq_true.mp this w h) c hc
    rw [this, Bool.or_true]
theorem atI_last {α : Type} {l : List α} {c : α} (e : l.getLast? = some c) : atI l (-1) = some c := by
  cases l with
  | nil => simp at e
  | cons a r =>
    have e2 : (a :: r)[(a :: r).length - 1]? = some c := by rw [← List.getLast?_eq_getElem?]; exact e
    have h1 : ¬ (0 : Int) ≤ -1 := by decide
    have h2 : (0 : Int) ≤ ((a :: r).length : Int) + -1 := by simp; omega
    have h3 : (((a :: r).length : Int) + -1).toNat = (a :: r).length - 1 := by omega
    unfold L2.atI L2.ixN
    simp only [h1, false_and, if_false]
    simp
    have h4 : (-1 + ((r.length : Int) + 1)).toNat = r.length := by omega
    rw [if_pos (by omega), h4]
    simpa using e2
variable {W : Wd} (hW : Has W) (hK : HasK W) (L : Nat)
section
include hW
theorem joins_ok (N : Nat) (hN : 1 ≤ N) {x y : LC} (hx : gT x) (hy : gT y) (h : Hs) : callF W L N 6 [.str x, .str y] h = .ok (.bl (jnB x y)) h := by
  obtain ⟨M, rfl⟩ : ∃ M, N = M + 1 := ⟨N - 1, by omega⟩
  rw [callF_s (hW 6 _ (by decide) rfl) rfl]
  have ne := hx.1
  obtain ⟨d, r, ed⟩ : ∃ d r, y = d :: r := by
    cases y with
    | nil => exact absurd rfl hy.1
    | cons d r => exact ⟨d, r, rfl⟩
  obtain ⟨c, ec⟩ : ∃ c, x.getLast? = some c := ⟨_, List.getLast?_eq_some_getLast ne⟩
  have hc := alnum_c (hx.2.2 c (List.mem_of_getLast? ec))
  have hd := alnum_c (hy.2.2 d (by rw [ed]; simp))
  have lx := hx.2.1
  have ly := hy.2.1
  have i1 : ∀ h : Hs, ixD W.cons (.str x) (.int (-1)) h = .ok (.str [c]) h := by
    intro h
    simp only [ixD]
    rw [if_pos (by simp only [sizeLine]; omega), atI_last ec]
    rfl
  have i2 : ∀ h : Hs, ixD W.cons (.str y) (.int 0) h = .ok (.str [d]) h := by
    intro h
    have := ix_at (cs := W.cons) (h := h) (s := y) (pre := []) (r := r) (c := d) (by simpa using ed) (by omega)
    simpa using this
  have mk : ∀ (z : LC) (es : List E) (σ : Sg) (h : Hs), metK W (callF W L M) "isalnum" es σ (.str z) h = (evalEs W (callF W L M) none es σ h).bind fun xs h => methD .isalnum (.str z) xs h := by
    intro z es σ h
    unfold metK
    simp [isIns]
  have md : ∀ (z : LC) (h : Hs), methD .isalnum (.str z) [] h = .ok (.bl (Txt.isalnum (Rf.st z))) h := fun z h => rfl
  have o1 : evalS W L (callF W L M) none (.set 2 (.or (.met (.ix (.var 0) (.neg (.cst (.int 1)))) "isalnum" []) (.cmp .eq (.ix (.var 0) (.neg (.cst (.int 1)))) (.cst (.str ['_']))))) [some (.str x), some (.str y), none, none] h = .ok (.nx [some (.str x), some (.str y), some (.bl (NCH.contains c)), none]) h := by
    rw [← hc]
    cases q : Txt.isalnum (Rf.st [c]) <;> simp [q_set, q_put, q_expr, q_ret, q_retN, q_ife, q_cons, q_nil, q_cst, q_bin, q_neg, q_cmp, q_and, q_or, q_not, q_eife, q_tup, q_lst, q_dic, q_ix, q_slc, q_cal, q_blt, q_enil, q_econs, q_met, q_raise, q_gst, q_gni, q_glb, r_for, r_lc, r_var, r_ix_ob, r_sl_ob, r_put_ob, r_len_ob, r_tup_ob, r_lst_ob, r_addl, r_app, r_it_ob, r_in_ob, r_nin_ob, optI, Rf.start, i1, mk, md, q]
  have o2 : evalS W L (callF W L M) none (.set 3 (.or (.met (.ix (.var 1) (.cst (.int 0))) "isalnum" []) (.cmp .eq (.ix (.var 1) (.cst (.int 0))) (.cst (.str ['_']))))) [some (.str x), some (.str y), some (.bl (NCH.contains c)), none] h = .ok (.nx [some (.str x), some (.str y), some (.bl (NCH.contains c)), some (.bl (NCH.contains d))]) h := by
    rw [← hd]
    cases q : Txt.isalnum (Rf.st [d]) <;> simp [q_set, q_put, q_expr, q_ret, q_retN, q_ife, q_cons, q_nil, q_cst, q_bin, q_neg, q_cmp, q_and, q_or, q_not, q_eife, q_tup, q_lst, q_dic, q_ix, q_slc, q_cal, q_blt, q_enil, q_econs, q_met, q_raise, q_gst, q_gni, q_glb, r_for, r_lc, r_var, r_ix_ob, r_sl_ob, r_put_ob, r_len_ob, r_tup_ob, r_lst_ob, r_addl, r_app, r_it_ob, r_in_ob, r_nin_ob, optI, Rf.start, i2, mk, md, q]
  have ej : jnB x y = ((NCH.contains c && NCH.contains d) || ((x == ['='] || x == ['<']) && d == '=')) := by
    unfold jnB
    rw [ec, ed]
  have es : Rf.start f__law_joins.ns [D.str x, .str y] = [some (.str x), some (.str y), none, none] := rfl
  have eb : f__law_joins.body = [.set 2 (.or (.met (.ix (.var 0) (.neg (.cst (.int 1)))) "isalnum" []) (.cmp .eq (.ix (.var 0) (.neg (.cst (.int 1)))) (.cst (.str ['_'])))),
    .set 3 (.or (.met (.ix (.var 1) (.cst (.int 0))) "isalnum" []) (.cmp .eq (.ix (.var 1) (.cst (.int 0))) (.cst (.str ['_'])))),
    .ife (.and (.var 2) (.var 3)) [.ret (.cst (.bl true))] [],
    .ret (.and (.or (.cmp .eq (.var 0) (.cst (.str ['=']))) (.cmp .eq (.var 0) (.cst (.str ['<'])))) (.cmp .eq (.ix (.var 1) (.cst (.int 0))) (.cst (.str ['=']))))] := rfl
  rw [es, eb, q_cons, o1, RS.then_nx, q_cons, o2, RS.then_nx, ej]
  generalize NCH.contains c = a
  generalize NCH.contains d = b
  have e3 : ∀ s : LC, (x == s) = decide (x = s) := fun s => by by_cases q : x = s <;> simp [q]
  have e4 : (d == '=') = decide (d = '=') := by by_cases q : d = '=' <;> simp [q]
  rw [e3, e3, e4]
  by_cases q1 : x = ['='] <;> by_cases q2 : x = ['<'] <;> by_cases q3 : d = '=' <;> cases a <;> cases b <;> simp [q_set, q_put, q_expr, q_ret, q_retN, q_ife, q_cons, q_nil, q_cst, q_bin, q_neg, q_cmp, q_and, q_or, q_not, q_eife, q_tup, q_lst, q_dic, q_ix, q_slc, q_cal, q_blt, q_enil, q_econs, q_met, q_raise, q_gst, q_gni, q_glb, r_for, r_lc, r_var, r_ix_ob, r_sl_ob, r_put_ob, r_len_ob, r_tup_ob, r_lst_ob, r_addl, r_app, r_it_ob, r_in_ob, r_nin_ob, optI, Rf.start, i2, q1, q2, q3]
  all_goals first
    | (rw [q1] at q2; simp at q2; done)
    | (simp_all)
theorem space_ok (N p q : Nat) (hN : 3 ≤ N) (ns : List Int) (b : Bool) (h : Hs) (P : PO p q ns h) : ∃ (s : LC) (h' : Hs), callF W L N 5 [.ob p, .bl b] h = .ok (.str s) h' ∧ s ∈ SPC ∧ (b = true → s ≠ []) ∧ PO p q ns h' ∧ Kp p h h' := by
  obtain ⟨M, rfl⟩ : ∃ M, N = M + 1 := ⟨N - 1, by omega⟩
  rw [callF_s (hW 5 _ (by decide) rfl) rfl]
  have pl := P.lt
  obtain ⟨SP, eS⟩ : ∃ SP, SP = SPC.map D.str := ⟨_, rfl⟩
  obtain ⟨v, h1, e1, a1, b1, P1, k1⟩ := takeN hW L M p q (by omega) ns 8 (by decide) (by decide) (h ++ [.lst SP]) P.app
  have l1 := k1.2 h.length _ (by omega) lk_new
  obtain ⟨x, hx, ex⟩ := atI_some (xs := SP) a1 (by rw [eS]; simpa [SPC] using b1)
  rw [eS] at hx
  obtain ⟨s, hs, rfl⟩ := List.mem_map.mp hx
  rw [eS] at e1 l1 ex
  simp only [SPC, List.map_cons, List.map_nil] at e1 l1 ex
  have kk := (Kp.app (p := p) (h := h) (t := [MO.lst SP])).trans k1
  by_cases hc : b = true ∧ s = []
  · obtain ⟨rfl, rfl⟩ := hc
    refine ⟨[' '], h1, ?_, by decide, by simp, P1, kk⟩
    simp [q_set, q_put, q_expr, q_ret, q_retN, q_ife, q_cons, q_nil, q_cst, q_bin, q_neg, q_cmp, q_and, q_or, q_not, q_eife, q_tup, q_lst, q_dic, q_ix, q_slc, q_cal, q_blt, q_enil, q_econs, q_met, q_raise, q_gst, q_gni, q_glb, r_for, r_lc, r_var, r_ix_ob, r_sl_ob, r_put_ob, r_len_ob, r_tup_ob, r_lst_ob, r_addl, r_app, r_it_ob, r_in_ob, r_nin_ob, optI, Rf.start, f__law_space, e1, l1, ex, sizeLine]
  · refine ⟨s, h1, ?_, hs, fun q => fun q2 => hc ⟨q, q2⟩, P1, kk⟩
    cases b with
    | false => simp [q_set, q_put, q_expr, q_ret, q_retN, q_ife, q_cons, q_nil, q_cst, q_bin, q_neg, q_cmp, q_and, q_or, q_not, q_eife, q_tup, q_lst, q_dic, q_ix, q_slc, q_cal, q_blt, q_enil, q_econs, q_met, q_raise, q_gst, q_gni, q_glb, r_for, r_lc, r_var, r_ix_ob, r_sl_ob, r_put_ob, r_len_ob, r_tup_ob, r_lst_ob, r_addl, r_app, r_it_ob, r_in_ob, r_nin_ob, optI, Rf.start, f__law_space, e1, l1, ex, sizeLine]
    | true =>
      have : s ≠ [] := fun q => hc ⟨rfl, q⟩
      simp [q_set, q_put, q_expr, q_ret, q_retN, q_ife, q_cons, q_nil, q_cst, q_bin, q_neg, q_cmp, q_and, q_or, q_not, q_eife, q_tup, q_lst, q_dic, q_ix, q_slc, q_cal, q_blt, q_enil, q_econs, q_met, q_raise, q_gst, q_gni, q_glb, r_for, r_lc, r_var, r_ix_ob, r_sl_ob, r_put_ob, r_len_ob, r_tup_ob, r_lst_ob, r_addl, r_app, r_it_ob, r_in_ob, r_nin_ob, optI, Rf.start, f__law_space, e1, l1, ex, this, sizeLine]
/-- what stands stays, two aside -/
def Ky (p y : Nat) (h h' : Hs) : Prop := h.length ≤ h'.length ∧ ∀ (i : Nat) (mo : MO), i ≠ p → i ≠ y → h[i]? = some mo → h'[i]? = some mo
omit hW in
theorem Ky.refl {p y h} : Ky p y h h := ⟨Nat.le_refl _, fun _ _ _ _ e => e⟩
omit hW in
theorem Ky.trans {p y h h1 h2} (a : Ky p y h h1) (b : Ky p y h1 h2) : Ky p y h h2 := ⟨Nat.le_trans a.1 b.1, fun i mo hi hj e => b.2 i mo hi hj (a.2 i mo hi hj e)⟩
omit hW in
theorem Kp.ky {p y h h'} (a : Kp p h h') : Ky p y h h' := ⟨a.1, fun i mo hi _ e => a.2 i mo hi e⟩
omit hW in
theorem Ky.set {p y h o} : Ky p y h (h.set y o) := ⟨by simp, fun i mo _ hi e => by rw [List.getElem?_set_ne (Ne.symm hi)]; exact e⟩
omit hW in
theorem Ky.kp {p y h h1 h2} (a : Kp p h h1) (hy : h.length ≤ y) (b : Ky p y h1 h2) : Kp p h h2 := ⟨Nat.le_trans a.1 b.1, fun i mo hi e => b.2 i mo hi (fun q => by have := lk_lt e; omega) (a.2 i mo hi e)⟩
omit hW in
theorem PO.set {p q : Nat} {ns : List Int} {h : Hs} {y : Nat} {o : MO} (P : PO p q ns h) (h1 : y ≠ p) (h2 : y ≠ q) : PO p q ns (h.set y o) := by
  obtain ⟨h0, a, k, hk, e1, e2⟩ := P
  exact ⟨h0, a, k, hk, by rw [List.getElem?_set_ne h1]; exact e1, by rw [List.getElem?_set_ne h2]; exact e2⟩
/-- the places -/
abbrev Gs := List (LC × LC)
def txG : Gs → LC
  | [] => []
  | x :: r => x.1 ++ (x.2 ++ txG r)
def okG : Gs → Prop
  | [] => True
  | x :: r => gT x.1 ∧ x.2 ∈ SPC ∧ (x.2 = [] → ∀ y ∈ r.head?, jnB x.1 y.1 = false) ∧ okG r
def plc (n : Nat) : Gs → List D
  | [] => []
  | x :: r => .int (n : Int) :: plc (n + x.1.length + x.2.length) r
theorem tx_len : ∀ {qs : Gs}, okG qs → (txG qs).length ≤ 51 * qs.length
  | [], _ => by simp [txG]
  | x :: r, h => by
    have := tx_len h.2.2.2
    have a := h.1.2.1
    have b := spc_len h.2.1
    simp only [txG, List.length_append, List.length_cons]; omega
abbrev bodyX : List S := [.expr (.met (.var 3) "append" [(.blt .len [(.var 2)])]),
    .set 2 (.bin .add (.var 2) (.ix (.var 1) (.var 4))),
    .set 2 (.bin .add (.var 2) (.cal 5 [(.var 0), (.and (.cmp .lt (.bin .add (.var 4) (.cst (.int 1))) (.blt .len [(.var 1)])) (.cal 6 [(.ix (.var 1) (.var 4)), (.ix (.var 1) (.blt .min2 [(.bin .add (.var 4) (.cst (.int 1))), (.bin .sub (.blt .len [(.var 1)]) (.cst (.int 1)))]))]))]))]
theorem text_loop (M p q z y : Nat) (ns : List Int) (ps : List LC) (hM : 3 ≤ M) (hz : z ≠ p) (hy : y ≠ p) (hyz : y ≠ z) (hyq : y ≠ q) (hps : ∀ x ∈ ps, gT x) (hn : ps.length ≤ 30) :
    ∀ (m k : Nat), k + m = ps.length → ∀ (T : LC) (pl : List D) (s4 : Option D) (h : Hs), PO p q ns h → h[z]? = some (.lst (ps.map D.str)) → h[y]? = some (.lst pl) → pl.length = k → T.length ≤ 11 + 51 * k →
    ∃ (qs : Gs) (s4' : Option D) (h' : Hs), forI .none (fT W L (callF W L M) (.nm 4) bodyX) ((List.range' k m).map fun (i : Nat) => D.int (i : Int)) [some (.ob p), some (.ob z), some (.str T), some (.ob y), s4] h = .ok (.nx [some (.ob p), some (.ob z), some (.str (T ++ txG qs)), some (.ob y), s4']) h' ∧
      qs.map (·.1) = ps.drop k ∧ okG qs ∧ h'[y]? = some (.lst (pl ++ plc T.length qs)) ∧ PO p q ns h' ∧ Ky p y h h' := by
  intro m
  induction m with
  | zero =>
    intro k hkm T pl s4 h P hzz hyy hpl hT
    refine ⟨[], s4, h, ?_, ?_, trivial, by simpa [plc] using hyy, P, Ky.refl⟩
    · rw [List.range'_zero, List.map_nil, forI_nil (by trivial)]
      simp [txG, endG]
    · rw [List.drop_eq_nil_of_le (by omega)]; rfl
  | succ m ih =>
    intro k hkm T pl s4 h P hzz hyy hpl hT
    have hk : k < ps.length := by omega
    obtain ⟨x, hx⟩ : ∃ x, ps[k]? = some x := ⟨ps[k], by simp [hk]⟩
    have xm : x ∈ ps := List.mem_of_getElem? hx
    have hxo := hps x xm
    have ax : ∀ h : Hs, atI (ps.map D.str) (k : Int) = some (.str x) := by
      intro h
      rw [atI_nat (by simpa using hk)]
      have := (List.getElem?_eq_some_iff.mp hx).2
      simp [this]
    have xl := hxo.2.1
    have yl := lk_lt hyy
    have kl : pl.length < 16777216 := by omega
    have Tl : T.length ≤ 16777216 := by omega
    have Tl2 : T.length + x.length ≤ 16777216 := by omega
    obtain ⟨h1, eh1⟩ : ∃ h1, h1 = h.set y (.lst (pl ++ [.int (T.length : Int)])) := ⟨_, rfl⟩
    have z1 : h1[z]? = some (.lst (ps.map D.str)) := by rw [eh1, List.getElem?_set_ne hyz]; exact hzz
    have y1 : h1[y]? = some (.lst (pl ++ [.int (T.length : Int)])) := by rw [eh1]; simp [yl]
    have P1 : PO p q ns h1 := by rw [eh1]; exact P.set hy hyq
    have b1 : ∀ s4, evalS W L (callF W L M) none (.expr (.met (.var 3) "append" [(.blt .len [(.var 2)])])) [some (.ob p), some (.ob z), some (.str T), some (.ob y), s4] h = .ok (.nx [some (.ob p), some (.ob z), some (.str T), some (.ob y), s4]) h1 := by
      intro s4
      rw [eh1]
      simp [q_set, q_put, q_expr, q_ret, q_retN, q_ife, q_cons, q_nil, q_cst, q_bin, q_neg, q_cmp, q_and, q_or, q_not, q_eife, q_tup, q_lst, q_dic, q_ix, q_slc, q_cal, q_blt, q_enil, q_econs, q_met, q_raise, q_gst, q_gni, q_glb, r_for, r_lc, r_var, r_ix_ob, r_sl_ob, r_put_ob, r_len_ob, r_tup_ob, r_lst_ob, r_addl, r_app, r_it_ob, r_in_ob, r_nin_ob, optI, Rf.start, r_metapp hyy, hyy, kl, Tl, sizeLine]
    have b2 : evalS W L (callF W L M) none (.set 2 (.bin .add (.var 2) (.ix (.var 1) (.var 4)))) [some (.ob p), some (.ob z), some (.str T), some (.ob y), some (.int (k : Int))] h1 = .ok (.nx [some (.ob p), some (.ob z), some (.str (T ++ x)), some (.ob y), some (.int (k : Int))]) h1 := by
      simp [q_set, q_put, q_expr, q_ret, q_retN, q_ife, q_cons, q_nil, q_cst, q_bin, q_neg, q_cmp, q_and, q_or, q_not, q_eife, q_tup, q_lst, q_dic, q_ix, q_slc, q_cal, q_blt, q_enil, q_econs, q_met, q_raise, q_gst, q_gni, q_glb, r_for, r_lc, r_var, r_ix_ob, r_sl_ob, r_put_ob, r_len_ob, r_tup_ob, r_lst_ob, r_addl, r_app, r_it_ob, r_in_ob, r_nin_ob, optI, Rf.start, z1, ax h1, Tl2, sizeLine]
    -- must a space stand
    obtain ⟨b, hb, eb⟩ : ∃ b : Bool, (∀ y' ∈ (ps.drop (k + 1)).head?, b = jnB x y') ∧ evalE W (callF W L M) none (.and (.cmp .lt (.bin .add (.var 4) (.cst (.int 1))) (.blt .len [(.var 1)])) (.cal 6 [(.ix (.var 1) (.var 4)), (.ix (.var 1) (.blt .min2 [(.bin .add (.var 4) (.cst (.int 1))), (.bin .sub (.blt .len [(.var 1)]) (.cst (.int 1)))]))])) [some (.ob p), some (.ob z), some (.str (T ++ x)), some (.ob y), some (.int (k : Int))] h1 = .ok (.bl b) h1 := by
      by_cases hk2 : k + 1 < ps.length
      · obtain ⟨x2, hx2⟩ : ∃ x, ps[k + 1]? = some x := ⟨ps[k + 1], by simp [hk2]⟩
        have ax2 : atI (ps.map D.str) ((k : Int) + 1) = some (.str x2) := by
          have q := atI_nat (xs := ps.map D.str) (i := k + 1) (by simpa using hk2)
          rw [show (((k + 1 : Nat)) : Int) = (k : Int) + 1 by omega] at q
          rw [q]
          have := (List.getElem?_eq_some_iff.mp hx2).2
          simp [this]
        have j := joins_ok hW L M (by omega) hxo (hps x2 (List.mem_of_getElem? hx2)) h1
        have c1 : (k : Int) + 1 < (ps.length : Int) := by omega
        have c2 : (if (ps.length : Int) - 1 < (k : Int) + 1 then (ps.length : Int) - 1 else (k : Int) + 1) = (k : Int) + 1 := by
          rw [if_neg (by omega)]
        refine ⟨jnB x x2, fun y' hy' => ?_, ?_⟩
        · rw [List.head?_drop, hx2] at hy'
          cases hy'; rfl
        · simp [q_set, q_put, q_expr, q_ret, q_retN, q_ife, q_cons, q_nil, q_cst, q_bin, q_neg, q_cmp, q_and, q_or, q_not, q_eife, q_tup, q_lst, q_dic, q_ix, q_slc, q_cal, q_blt, q_enil, q_econs, q_met, q_raise, q_gst, q_gni, q_glb, r_for, r_lc, r_var, r_ix_ob, r_sl_ob, r_put_ob, r_len_ob, r_tup_ob, r_lst_ob, r_addl, r_app, r_it_ob, r_in_ob, r_nin_ob, optI, Rf.start, z1, c1, c2, ax h1, ax2, j]
      · have c1 : ¬ (k : Int) + 1 < (ps.length : Int) := by omega
        refine ⟨false, fun y' hy' => ?_, ?_⟩
        · rw [List.drop_eq_nil_of_le (by omega)] at hy'; cases hy'
        · simp [q_set, q_put, q_expr, q_ret, q_retN, q_ife, q_cons, q_nil, q_cst, q_bin, q_neg, q_cmp, q_and, q_or, q_not, q_eife, q_tup, q_lst, q_dic, q_ix, q_slc, q_cal, q_blt, q_enil, q_econs, q_met, q_raise, q_gst, q_gni, q_glb, r_for, r_lc, r_var, r_ix_ob, r_sl_ob, r_put_ob, r_len_ob, r_tup_ob, r_lst_ob, r_addl, r_app, r_it_ob, r_in_ob, r_nin_ob, optI, Rf.start, z1, c1]
    obtain ⟨sp, h2, e2, hsp, hne, P2, k2⟩ := space_ok hW L M p q hM ns b h1 P1
    have spl := spc_len hsp
    have Tl3 : T.length + x.length + sp.length ≤ 16777216 := by omega
    have b3 : evalS W L (callF W L M) none (.set 2 (.bin .add (.var 2) (.cal 5 [(.var 0), (.and (.cmp .lt (.bin .add (.var 4) (.cst (.int 1))) (.blt .len [(.var 1)])) (.cal 6 [(.ix (.var 1) (.var 4)), (.ix (.var 1) (.blt .min2 [(.bin .add (.var 4) (.cst (.int 1))), (.bin .sub (.blt .len [(.var 1)]) (.cst (.int 1)))]))]))]))) [some (.ob p), some (.ob z), some (.str (T ++ x)), some (.ob y), some (.int (k : Int))] h1 = .ok (.nx [some (.ob p), some (.ob z), some (.str (T ++ x ++ sp)), some (.ob y), some (.int (k : Int))]) h2 := by
      rw [q_set, q_bin]
      have v2 : evalE W (callF W L M) none (.var 2) [some (.ob p), some (.ob z), some (.str (T ++ x)), some (.ob y), some (.int (k : Int))] h1 = .ok (.str (T ++ x)) h1 := by simp [q_set, q_put, q_expr, q_ret, q_retN, q_ife, q_cons, q_nil, q_cst, q_bin, q_neg, q_cmp, q_and, q_or, q_not, q_eife, q_tup, q_lst, q_dic, q_ix, q_slc, q_cal, q_blt, q_enil, q_econs, q_met, q_raise, q_gst, q_gni, q_glb, r_for, r_lc, r_var, r_ix_ob, r_sl_ob, r_put_ob, r_len_ob, r_tup_ob, r_lst_ob, r_addl, r_app, r_it_ob, r_in_ob, r_nin_ob, optI, Rf.start]
      have v0 : evalE W (callF W L M) none (.var 0) [some (.ob p), some (.ob z), some (.str (T ++ x)), some (.ob y), some (.int (k : Int))] h1 = .ok (.ob p) h1 := by simp [q_set, q_put, q_expr, q_ret, q_retN, q_ife, q_cons, q_nil, q_cst, q_bin, q_neg, q_cmp, q_and, q_or, q_not, q_eife, q_tup, q_lst, q_dic, q_ix, q_slc, q_cal, q_blt, q_enil, q_econs, q_met, q_raise, q_gst, q_gni, q_glb, r_for, r_lc, r_var, r_ix_ob, r_sl_ob, r_put_ob, r_len_ob, r_tup_ob, r_lst_ob, r_addl, r_app, r_it_ob, r_in_ob, r_nin_ob, optI, Rf.start]
      rw [v2, R.bind_ok, q_cal, q_econs, v0, R.bind_ok, q_econs, eb, R.bind_ok, q_enil, R.bind_ok, R.bind_ok, R.bind_ok, e2, R.bind_ok, r_adds, if_pos (by simp only [List.length_append, sizeLine]; omega), R.stm_ok]
      rfl
    have y2 := k2.2 y _ hy y1
    have z2 := k2.2 z _ hz z1
    obtain ⟨qs, s4', h', e9, r1, r2, r3, r4, r5⟩ := ih (k + 1) (by omega) (T ++ x ++ sp) (pl ++ [.int (T.length : Int)]) (some (.int (k : Int))) h2 P2 z2 y2 (by simp; omega) (by simp; omega)
    have k1 : Ky p y h h1 := by rw [eh1]; exact Ky.set
    refine ⟨(x, sp) :: qs, s4', h', ?_, ?_, ⟨hxo, hsp, fun hs y' hy' => ?_, r2⟩, ?_, r4, k1.trans (k2.ky.trans r5)⟩
    · rw [List.range'_succ, List.map_cons, forI_nx (h' := h2) (σ' := [some (.ob p), some (.ob z), some (.str (T ++ x ++ sp)), some (.ob y), some (.int (k : Int))]) (by trivial) ?_]
      · have et : T ++ txG ((x, sp) :: qs) = T ++ x ++ sp ++ txG qs := by simp [txG]
        rw [et]
        exact e9
      · rw [fT_some (σ1 := [some (.ob p), some (.ob z), some (.str T), some (.ob y), some (.int (k : Int))]) rfl]
        rw [q_cons, b1, RS.then_nx, q_cons, b2, RS.then_nx, q_cons, b3, RS.then_nx, q_nil]
    · rw [List.map_cons, r1, List.drop_eq_getElem_cons hk]
      have := (List.getElem?_eq_some_iff.mp hx).2
      rw [this]
    · -- no space: they don't join
      have hb2 : b = false := by
        cases b with
        | false => rfl
        | true => exact absurd hs (hne rfl)
      have hh : (qs.map (·.1)).head? = some y'.1 := by
        rw [List.head?_map, Option.mem_def.mp hy']; rfl
      rw [r1] at hh
      have := hb y'.1 hh
      rw [hb2] at this
      exact this.symm
    · rw [r3]
      simp [plc, List.append_assoc, Nat.add_assoc]
end
end K01
end

section
namespace K01
open PySem PySem.Spec PyProof.Rows L2 Rf
variable {W : Wd} (hW : Has W) (hK : HasK W) (L : Nat)
section
include hW
theorem text_ok (N p q z : Nat) (hN : 4 ≤ N) (ns : List Int) (ps : List LC) (hps : ∀ x ∈ ps, gT x) (hn : ps.length ≤ 30) (h : Hs) (P : PO p q ns h) (hz : z ≠ p) (hzz : h[z]? = some (.lst (ps.map D.str))) :
    ∃ (sp : LC) (qs : Gs) (w y : Nat) (h' : Hs), callF W L N 4 [.ob p, .ob z] h = .ok (.ob w) h' ∧ sp ∈ SPC ∧ okG qs ∧ qs.map (·.1) = ps ∧ h'[w]? = some (.lst [.str (sp ++ txG qs), .ob y]) ∧ h'[y]? = some (.lst (plc sp.length qs)) ∧ PO p q ns h' ∧ Kp p h h' := by
  obtain ⟨M, rfl⟩ : ∃ M, N = M + 1 := ⟨N - 1, by omega⟩
  rw [callF_s (hW 4 _ (by decide) rfl) rfl]
  obtain ⟨sp, h1, e1, hsp, _, P1, k1⟩ := space_ok hW L M p q (by omega) ns false h P
  have z1 := k1.2 z _ hz hzz
  have zl := lk_lt z1
  have pl := P1.lt
  have hyq : h1.length ≠ q := by
    obtain ⟨_, _, _, _, _, e⟩ := P1
    have := lk_lt e; omega
  obtain ⟨qs, s4', h2, e2, r1, r2, r3, P2, k2⟩ := text_loop hW L M p q z h1.length ns ps (by omega) hz (by omega) (by omega) hyq hps hn ps.length 0 (by omega) sp [] none (h1 ++ [.lst []]) P1.app (lk_app z1) lk_new rfl (by have := spc_len hsp; omega)
  rw [← List.range_eq_range'] at e2
  have y2 : h2[h1.length]? = some (.lst (plc sp.length qs)) := by simpa using r3
  refine ⟨sp, qs, h2.length, h1.length, h2 ++ [.lst [.str (sp ++ txG qs), .ob h1.length]], ?_, hsp, r2, by simpa using r1, lk_new, lk_app y2, P2.app, (k1.trans (Ky.kp Kp.app (Nat.le_refl _) k2)).trans Kp.app⟩
  have es : Rf.start f__law_text.ns [D.ob p, .ob z] = [some (.ob p), some (.ob z), none, none, none] := rfl
  have eb : f__law_text.body = [.set 2 (.cal 5 [(.var 0), (.cst (.bl false))]), .set 3 (.lst []), .for_ (.nm 4) .rng1 [(.blt .len [(.var 1)])] bodyX, .ret (.lst [(.var 2), (.var 3)])] := rfl
  have s1 : evalS W L (callF W L M) none (.set 2 (.cal 5 [(.var 0), (.cst (.bl false))])) [some (.ob p), some (.ob z), none, none, none] h = .ok (.nx [some (.ob p), some (.ob z), some (.str sp), none, none]) h1 := by simp [q_set, q_put, q_expr, q_ret, q_retN, q_ife, q_cons, q_nil, q_cst, q_bin, q_neg, q_cmp, q_and, q_or, q_not, q_eife, q_tup, q_lst, q_dic, q_ix, q_slc, q_cal, q_blt, q_enil, q_econs, q_met, q_raise, q_gst, q_gni, q_glb, r_for, r_lc, r_var, r_ix_ob, r_sl_ob, r_put_ob, r_len_ob, r_tup_ob, r_lst_ob, r_addl, r_app, r_it_ob, r_in_ob, r_nin_ob, optI, Rf.start, e1]
  have s2 : evalS W L (callF W L M) none (.set 3 (.lst [])) [some (.ob p), some (.ob z), some (.str sp), none, none] h1 = .ok (.nx [some (.ob p), some (.ob z), some (.str sp), some (.ob h1.length), none]) (h1 ++ [.lst []]) := by simp [q_set, q_put, q_expr, q_ret, q_retN, q_ife, q_cons, q_nil, q_cst, q_bin, q_neg, q_cmp, q_and, q_or, q_not, q_eife, q_tup, q_lst, q_dic, q_ix, q_slc, q_cal, q_blt, q_enil, q_econs, q_met, q_raise, q_gst, q_gni, q_glb, r_for, r_lc, r_var, r_ix_ob, r_sl_ob, r_put_ob, r_len_ob, r_tup_ob, r_lst_ob, r_addl, r_app, r_it_ob, r_in_ob, r_nin_ob, optI, Rf.start, sizeLine]
  have it : evalEs W (callF W L M) none [(.blt .len [(.var 1)])] [some (.ob p), some (.ob z), some (.str sp), some (.ob h1.length), none] (h1 ++ [.lst []]) = .ok [.int ps.length] (h1 ++ [.lst []]) := by
    have z1' := lk_app (t := [.lst []]) z1
    simp [q_set, q_put, q_expr, q_ret, q_retN, q_ife, q_cons, q_nil, q_cst, q_bin, q_neg, q_cmp, q_and, q_or, q_not, q_eife, q_tup, q_lst, q_dic, q_ix, q_slc, q_cal, q_blt, q_enil, q_econs, q_met, q_raise, q_gst, q_gni, q_glb, r_for, r_lc, r_var, r_ix_ob, r_sl_ob, r_put_ob, r_len_ob, r_tup_ob, r_lst_ob, r_addl, r_app, r_it_ob, r_in_ob, r_nin_ob, optI, Rf.start, z1']
  rw [es, eb, q_cons, s1, RS.then_nx, q_cons, s2, RS.then_nx, q_cons, r_for, it, R.stm_ok, rng_small (by omega) (by omega), ofO_some, R.stm_ok, Int.toNat_natCast]
  dsimp only
  rw [e2, RS.then_nx]
  simp [q_set, q_put, q_expr, q_ret, q_retN, q_ife, q_cons, q_nil, q_cst, q_bin, q_neg, q_cmp, q_and, q_or, q_not, q_eife, q_tup, q_lst, q_dic, q_ix, q_slc, q_cal, q_blt, q_enil, q_econs, q_met, q_raise, q_gst, q_gni, q_glb, r_for, r_lc, r_var, r_ix_ob, r_sl_ob, r_put_ob, r_len_ob, r_tup_ob, r_lst_ob, r_addl, r_app, r_it_ob, r_in_ob, r_nin_ob, optI, Rf.start, sizeLine]
end
end K01
end

section
namespace K01
open PySem PySem.Spec PyProof.Rows L2 Rf
def HasE (W : Wd) : Prop := W.exf 1 = ["at"] ∧ W.exf 2 = ["limit"] ∧ W.isa = fun c k => decide ((c, k) ∈ [(0, 0), (1, 1), (1, 0), (2, 2), (2, 0)])
def bcc (c : Char) : Bool := ['!', '"', '$', '&', '\'', '/', '>', '?', '@', '[', '\\', ']', '^', '_', '`', '|'].contains c
theorem bc_no {c : Char} (h : bcc c = true) : blc c = false ∧ LET.contains c = false ∧ DIG.contains c = false ∧ sgc c = false := by
  have : ['!', '"', '$', '&', '\'', '/', '>', '?', '@', '[', '\\', ']', '^', '_', '`', '|'].all (fun c => !blc c && !LET.contains c && !DIG.contains c && !sgc c) = true := by decide +kernel
  have := List.all_eq_true.mp this c (List.contains_iff_mem.mp h)
  simp only [Bool.and_eq_true, Bool.not_eq_true'] at this
  exact ⟨this.1.1.1, this.1.1.2, this.1.2, this.2⟩
/-- a bad piece -/
inductive Bd : LC → Prop
  | ch {c} : bcc c = true → Bd [c]
  | long {c r} : LET.contains c = true → (∀ x ∈ c :: r, NCH.contains x = true) → 20 < (c :: r).length → Bd (c :: r)
  | num {w} : w ≠ [] → (∀ x ∈ w, DIG.contains x = true) → (5 < w.length ∨ (65535 : Int) < ((NumText.digitsVal (w.map Char.toNat) : Nat) : Int) ∨ (∃ r, w = '0' :: r ∧ r ≠ [])) → Bd w
  | tail {w c r} : w ≠ [] → (∀ x ∈ w, DIG.contains x = true) → NCH.contains c = true → DIG.contains c = false → Bd (w ++ c :: r)
def last? (b : LC) : Bool := match b.getLast? with | some c => NCH.contains c | none => false
variable {W : Wd} (hW : Has W) (hK : HasK W) (hE : HasE W) (L : Nat)
section
include hW hE
theorem sign_bad (M : Nat) (c : Char) (hc : sgc c = false) (pre rest s : LC) (h : Hs) (hs : s = pre ++ c :: rest) : ∀ (a : List LC) (s2 : Option D), (∀ p ∈ a, p ∈ SIG) →
    ∃ s2' : Option D, forI .none (fT W L (callF W L M) (.nm 2) bodyS) (a.map D.str) [some (.str s), some (.int (pre.length : Int)), s2] h = .ok (.nx [some (.str s), some (.int (pre.length : Int)), s2']) h := by
  have mk : ∀ (es : List E) (σ : Sg) (h : Hs), metK W (callF W L M) "startswith" es σ (.str s) h = (evalEs W (callF W L M) none es σ h).bind fun xs h => methD .startswith (.str s) xs h := by
    intro es σ h
    unfold metK
    simp [isIns]
  intro a
  induction a with
  | nil => intro s2 _; exact ⟨s2, forI_nil (by trivial)⟩
  | cons p a ih =>
    intro s2 hp
    obtain ⟨s2', e9⟩ := ih (some (.str p)) fun q hq => hp q (List.mem_cons_of_mem _ hq)
    refine ⟨s2', ?_⟩
    obtain ⟨d, r, ed, hd⟩ := sig_ch (hp p List.mem_cons_self)
    have m1 : methD .startswith (.str s) [.str p, .int (pre.length : Int)] h = .ok (.bl false) h := by
      simp only [methD]
      rw [hs, sw_at, decide_eq_false]
      intro q
      rw [ed] at q
      simp only [List.length_cons, List.take_succ_cons, List.cons.injEq] at q
      rw [q.1, hd] at hc
      cases hc
    rw [List.map_cons, forI_nx (h' := h) (σ' := [some (.str s), some (.int (pre.length : Int)), some (.str p)]) (by trivial) ?_]
    · exact e9
    · rw [fT_some (σ1 := [some (.str s), some (.int (pre.length : Int)), some (.str p)]) rfl]
      simp [q_set, q_put, q_expr, q_ret, q_retN, q_ife, q_cons, q_nil, q_cst, q_bin, q_neg, q_cmp, q_and, q_or, q_not, q_eife, q_tup, q_lst, q_dic, q_ix, q_slc, q_cal, q_blt, q_enil, q_econs, q_met, q_raise, q_gst, q_gni, q_glb, r_for, r_lc, r_var, r_ix_ob, r_sl_ob, r_put_ob, r_len_ob, r_tup_ob, r_lst_ob, r_addl, r_app, r_it_ob, r_in_ob, r_nin_ob, optI, Rf.start, mk, m1]
include hK
/-- a bad piece is refused -/
theorem bad_token (hL : 20001 ≤ L) (N : Nat) (hN : 3 ≤ N) {b : LC} (hb : Bd b) (pre tail s : LC) (h : Hs) (hs : s = pre ++ (b ++ tail)) (hl : s.length ≤ 20000) (ht : last? b = true → hd? tail NCH.contains = false) :
    callF W L N 13 [.str s, .int (pre.length : Int)] h = .exc 1 [("at", .int (pre.length : Int))] h := by
  obtain ⟨M, rfl⟩ : ∃ M, N = M + 1 := ⟨N - 1, by omega⟩
  obtain ⟨K, rfl⟩ : ∃ K, M = K + 1 := ⟨M - 1, by omega⟩
  obtain ⟨x1, x2, x3⟩ := hE
  have l16 : s.length ≤ 16777216 := by omega
  have tok : ∀ {c : Char} {r : LC} {i : Nat}, s = pre ++ c :: r → (LET.contains c = true ∧ i = 12 ∨ LET.contains c = false ∧ DIG.contains c = true ∧ i = 11 ∨ LET.contains c = false ∧ DIG.contains c = false ∧ i = 10) →
      callF W L (K + 1) i [.str s, .int (pre.length : Int)] h = .exc 1 [("at", .int (pre.length : Int))] h → callF W L (K + 1 + 1) 13 [.str s, .int (pre.length : Int)] h = .exc 1 [("at", .int (pre.length : Int))] h := by
    intro c r i hs hc e2
    rw [callF_s (hW 13 _ (by decide) rfl) rfl]
    have e1 := ix_at (cs := W.cons) (h := h) (s := s) (pre := pre) (r := r) (c := c) hs hl
    have es : Rf.start f_read_token.ns [D.str s, .int (pre.length : Int)] = [some (.str s), some (.int (pre.length : Int))] := rfl
    have eb : f_read_token.body = [.ife (.cmp .in_ (.ix (.var 0) (.var 1)) (.gst 2 LET)) [.ret (.cal 12 [(.var 0), (.var 1)])] [], .ife (.cmp .in_ (.ix (.var 0) (.var 1)) (.gst 1 DIG)) [.ret (.cal 11 [(.var 0), (.var 1)])] [], .ret (.cal 10 [(.var 0), (.var 1)])] := rfl
    rw [es, eb]
    have i1 := in_str (cs := W.cons) (h := h) (c := c) (z := LET)
    have i2 := in_str (cs := W.cons) (h := h) (c := c) (z := DIG)
    rcases hc with ⟨a, rfl⟩ | ⟨a, a2, rfl⟩ | ⟨a, a2, rfl⟩
    · rw [a] at i1
      generalize LET = z at i1 ⊢
      simp [q_set, q_put, q_expr, q_ret, q_retN, q_ife, q_cons, q_nil, q_cst, q_bin, q_neg, q_cmp, q_and, q_or, q_not, q_eife, q_tup, q_lst, q_dic, q_ix, q_slc, q_cal, q_blt, q_enil, q_econs, q_met, q_raise, q_gst, q_gni, q_glb, r_for, r_lc, r_var, r_ix_ob, r_sl_ob, r_put_ob, r_len_ob, r_tup_ob, r_lst_ob, r_addl, r_app, r_it_ob, r_in_ob, r_nin_ob, optI, Rf.start, e1, i1, e2]
    · rw [a] at i1
      rw [a2] at i2
      generalize LET = z at i1 ⊢
      generalize DIG = z' at i2 ⊢
      simp [q_set, q_put, q_expr, q_ret, q_retN, q_ife, q_cons, q_nil, q_cst, q_bin, q_neg, q_cmp, q_and, q_or, q_not, q_eife, q_tup, q_lst, q_dic, q_ix, q_slc, q_cal, q_blt, q_enil, q_econs, q_met, q_raise, q_gst, q_gni, q_glb, r_for, r_lc, r_var, r_ix_ob, r_sl_ob, r_put_ob, r_len_ob, r_tup_ob, r_lst_ob, r_addl, r_app, r_it_ob, r_in_ob, r_nin_ob, optI, Rf.start, e1, i1, i2, e2]
    · rw [a] at i1
      rw [a2] at i2
      generalize LET = z at i1 ⊢
      generalize DIG = z' at i2 ⊢
      simp [q_set, q_put, q_expr, q_ret, q_retN, q_ife, q_cons, q_nil, q_cst, q_bin, q_neg, q_cmp, q_and, q_or, q_not, q_eife, q_tup, q_lst, q_dic, q_ix, q_slc, q_cal, q_blt, q_enil, q_econs, q_met, q_raise, q_gst, q_gni, q_glb, r_for, r_lc, r_var, r_ix_ob, r_sl_ob, r_put_ob, r_len_ob, r_tup_ob, r_lst_ob, r_addl, r_app, r_it_ob, r_in_ob, r_nin_ob, optI, Rf.start, e1, i1, i2, e2]
  -- a number
  have num : ∀ (w tl : LC), w ≠ [] → (∀ x ∈ w, DIG.contains x = true) → s = pre ++ (w ++ tl) → hd? tl DIG.contains = false →
      (5 < w.length ∨ (65535 : Int) < ((NumText.digitsVal (w.map Char.toNat) : Nat) : Int) ∨ (∃ r, w = '0' :: r ∧ r ≠ []) ∨ hd? tl NCH.contains = true) → callF W L (K + 1) 11 [.str s, .int (pre.length : Int)] h = .exc 1 [("at", .int (pre.length : Int))] h := by
    intro w tl wne wd hs wt hw
    rw [callF_s (hW 11 _ (by decide) rfl) rfl]
    have e1 := run_ok hW L hL K (by omega) DIG w pre tl s h hs hl wd wt
    have e2 := cut_at hs
    have wl : w.length ≤ 20000 := by rw [hs] at hl; simp at hl; omega
    have wl2 : w.length ≤ 16777216 := by omega
    have t1 : evalS W L (callF W L K) none (.set 2 (.cal 14 [(.var 0), (.var 1), (.gst 1 DIG)])) [some (.str s), some (.int (pre.length : Int)), none, none] h = .ok (.nx [some (.str s), some (.int (pre.length : Int)), some (.int ((pre.length + w.length : Nat) : Int)), none]) h := by
      generalize pre.length + w.length = k at e1 ⊢
      generalize DIG = z at e1 ⊢
      simp [q_set, q_put, q_expr, q_ret, q_retN, q_ife, q_cons, q_nil, q_cst, q_bin, q_neg, q_cmp, q_and, q_or, q_not, q_eife, q_tup, q_lst, q_dic, q_ix, q_slc, q_cal, q_blt, q_enil, q_econs, q_met, q_raise, q_gst, q_gni, q_glb, r_for, r_lc, r_var, r_ix_ob, r_sl_ob, r_put_ob, r_len_ob, r_tup_ob, r_lst_ob, r_addl, r_app, r_it_ob, r_in_ob, r_nin_ob, optI, Rf.start, e1]
    have t2 : evalS W L (callF W L K) none (.set 3 (.slc (.var 0) [(.var 1)] [(.var 2)])) [some (.str s), some (.int (pre.length : Int)), some (.int ((pre.length + w.length : Nat) : Int)), none] h = .ok (.nx [some (.str s), some (.int (pre.length : Int)), some (.int ((pre.length + w.length : Nat) : Int)), some (.str w)]) h := by
      generalize pre.length + w.length = k at e2 ⊢
      simp [q_set, q_put, q_expr, q_ret, q_retN, q_ife, q_cons, q_nil, q_cst, q_bin, q_neg, q_cmp, q_and, q_or, q_not, q_eife, q_tup, q_lst, q_dic, q_ix, q_slc, q_cal, q_blt, q_enil, q_econs, q_met, q_raise, q_gst, q_gni, q_glb, r_for, r_lc, r_var, r_ix_ob, r_sl_ob, r_put_ob, r_len_ob, r_tup_ob, r_lst_ob, r_addl, r_app, r_it_ob, r_in_ob, r_nin_ob, optI, Rf.start, slD, l16, e2, sizeLine]
    have rz : ∀ σ : Sg, σ[1]? = some (some (.int (pre.length : Int))) → evalB W L (callF W L K) none [.raise 1 [(.var 1)]] σ h = .exc 1 [("at", .int (pre.length : Int))] σ h := by
      intro σ hσ
      simp [q_set, q_put, q_expr, q_ret, q_retN, q_ife, q_cons, q_nil, q_cst, q_bin, q_neg, q_cmp, q_and, q_or, q_not, q_eife, q_tup, q_lst, q_dic, q_ix, q_slc, q_cal, q_blt, q_enil, q_econs, q_met, q_raise, q_gst, q_gni, q_glb, r_for, r_lc, r_var, r_ix_ob, r_sl_ob, r_put_ob, r_len_ob, r_tup_ob, r_lst_ob, r_addl, r_app, r_it_ob, r_in_ob, r_nin_ob, optI, Rf.start, hσ, x1]
    have es : Rf.start f_read_number.ns [D.str s, .int (pre.length : Int)] = [some (.str s), some (.int (pre.length : Int)), none, none] := rfl
    have eb : f_read_number.body = [.set 2 (.cal 14 [(.var 0), (.var 1), (.gst 1 DIG)]), .set 3 (.slc (.var 0) [(.var 1)] [(.var 2)]),
      .ife (.or (.cmp .gt (.blt .len [(.var 3)]) (.gni 3 (5))) (.cmp .gt (.blt .int [(.var 3)]) (.gni 2 (65535)))) [.raise 1 [(.var 1)]] [],
      .ife (.and (.cmp .eq (.ix (.var 3) (.cst (.int 0))) (.cst (.str ['0']))) (.cmp .gt (.blt .len [(.var 3)]) (.cst (.int 1)))) [.raise 1 [(.var 1)]] [],
      .ife (.and (.cmp .lt (.var 2) (.blt .len [(.var 0)])) (.cmp .in_ (.ix (.var 0) (.var 2)) (.gst 3 NCH))) [.raise 1 [(.var 1)]] [],
      .ret (.tup [(.cst (.str ['n', 'u', 'm', 'b', 'e', 'r'])), (.blt .int [(.var 3)]), (.var 2)])] := rfl
    rw [es, eb, q_cons, t1, RS.then_nx, q_cons, t2, RS.then_nx, q_cons, q_ife]
    obtain ⟨σ, eσ⟩ : ∃ σ : Sg, σ = [some (.str s), some (.int (pre.length : Int)), some (.int ((pre.length + w.length : Nat) : Int)), some (.str w)] := ⟨_, rfl⟩
    have hr := rz σ (by rw [eσ]; rfl)
    obtain ⟨v, ev0⟩ : ∃ v : Nat, v = NumText.digitsVal (w.map Char.toNat) := ⟨_, rfl⟩
    have hint : w.length ≤ 5 → bltC W .int [.str w] h = .ok (.int (v : Int)) h := by
      intro h5
      have ad : PySem.intText? (Rf.st w) = some ((NumText.digitsVal (w.map Char.toNat) : Nat) : Int) := by
        refine PySem.intText_digits (x := Rf.st w) ?_ ?_ ?_
        · intro c hc
          have hc' : c ∈ w.map Char.toNat := by simpa [Rf.st] using hc
          obtain ⟨ch, hch, rfl⟩ := List.mem_map.mp hc'
          have := List.contains_iff_mem.mp (wd ch hch)
          simp only [DIG, List.mem_cons, List.not_mem_nil, or_false] at this
          rcases this with rfl | rfl | rfl | rfl | rfl | rfl | rfl | rfl | rfl | rfl <;> decide
        · simpa [Rf.st] using wne
        · simp only [Rf.st, Str.length, List.size_toArray, List.length_map]; omega
      show (match PySem.intText? (Rf.st w) with | some n => if w.length ≤ 640 then R.ok (D.int n) h else R.no | none => R.no) = _
      rw [ad, ev0]
      simp only []
      rw [if_pos (by omega)]
    rw [← ev0] at hw
    by_cases c1 : 5 < w.length ∨ (65535 : Int) < (v : Int)
    · have cc : evalE W (callF W L K) none (.or (.cmp .gt (.blt .len [(.var 3)]) (.gni 3 (5))) (.cmp .gt (.blt .int [(.var 3)]) (.gni 2 (65535)))) [some (.str s), some (.int (pre.length : Int)), some (.int ((pre.length + w.length : Nat) : Int)), some (.str w)] h = .ok (.bl true) h := by
        by_cases h5 : 5 < w.length
        · have : (5 : Int) < (w.length : Int) := by omega
          simp [q_set, q_put, q_expr, q_ret, q_retN, q_ife, q_cons, q_nil, q_cst, q_bin, q_neg, q_cmp, q_and, q_or, q_not, q_eife, q_tup, q_lst, q_dic, q_ix, q_slc, q_cal, q_blt, q_enil, q_econs, q_met, q_raise, q_gst, q_gni, q_glb, r_for, r_lc, r_var, r_ix_ob, r_sl_ob, r_put_ob, r_len_ob, r_tup_ob, r_lst_ob, r_addl, r_app, r_it_ob, r_in_ob, r_nin_ob, optI, Rf.start, wl2, this, sizeLine]
        · have h6 : ¬ (5 : Int) < (w.length : Int) := by omega
          have h7 := hint (by omega)
          have h8 : (65535 : Int) < (v : Int) := c1.resolve_left h5
          simp [q_set, q_put, q_expr, q_ret, q_retN, q_ife, q_cons, q_nil, q_cst, q_bin, q_neg, q_cmp, q_and, q_or, q_not, q_eife, q_tup, q_lst, q_dic, q_ix, q_slc, q_cal, q_blt, q_enil, q_econs, q_met, q_raise, q_gst, q_gni, q_glb, r_for, r_lc, r_var, r_ix_ob, r_sl_ob, r_put_ob, r_len_ob, r_tup_ob, r_lst_ob, r_addl, r_app, r_it_ob, r_in_ob, r_nin_ob, optI, Rf.start, wl2, h6, h7, h8, sizeLine]
      rw [cc, R.stm_ok, r_tbl, R.stm_ok, if_pos rfl, ← eσ, hr]
      rfl
    · have h5 : ¬ 5 < w.length := fun q => c1 (.inl q)
      have h6 : ¬ (5 : Int) < (w.length : Int) := by omega
      have h7 := hint (by omega)
      have h8 : ¬ (65535 : Int) < (v : Int) := fun q => c1 (.inr q)
      have cc : evalE W (callF W L K) none (.or (.cmp .gt (.blt .len [(.var 3)]) (.gni 3 (5))) (.cmp .gt (.blt .int [(.var 3)]) (.gni 2 (65535)))) [some (.str s), some (.int (pre.length : Int)), some (.int ((pre.length + w.length : Nat) : Int)), some (.str w)] h = .ok (.bl false) h := by
        simp [q_set, q_put, q_expr, q_ret, q_retN, q_ife, q_cons, q_nil, q_cst, q_bin, q_neg, q_cmp, q_and, q_or, q_not, q_eife, q_tup, q_lst, q_dic, q_ix, q_slc, q_cal, q_blt, q_enil, q_econs, q_met, q_raise, q_gst, q_gni, q_glb, r_for, r_lc, r_var, r_ix_ob, r_sl_ob, r_put_ob, r_len_ob, r_tup_ob, r_lst_ob, r_addl, r_app, r_it_ob, r_in_ob, r_nin_ob, optI, Rf.start, wl2, h6, h7, h8, sizeLine]
      rw [cc, R.stm_ok, r_tbl, R.stm_ok, if_neg (by decide), q_nil, RS.then_nx, q_cons, q_ife]
      obtain ⟨c, r, ew⟩ : ∃ c r, w = c :: r := by
        cases w with
        | nil => exact absurd rfl wne
        | cons c r => exact ⟨c, r, rfl⟩
      have e4 : ixD W.cons (.str w) (.int 0) h = .ok (.str [c]) h := by
        have := ix_at (cs := W.cons) (h := h) (s := w) (pre := []) (r := r) (c := c) (by simpa using ew) (by omega)
        simpa using this
      have wlr : w.length = r.length + 1 := by rw [ew]; rfl
      by_cases c2 : c = '0' ∧ r ≠ []
      · have r1 : (1 : Int) < (w.length : Int) := by
          have := List.length_pos_iff.mpr c2.2
          omega
        have cc : evalE W (callF W L K) none (.and (.cmp .eq (.ix (.var 3) (.cst (.int 0))) (.cst (.str ['0']))) (.cmp .gt (.blt .len [(.var 3)]) (.cst (.int 1)))) [some (.str s), some (.int (pre.length : Int)), some (.int ((pre.length + w.length : Nat) : Int)), some (.str w)] h = .ok (.bl true) h := by
          simp [q_set, q_put, q_expr, q_ret, q_retN, q_ife, q_cons, q_nil, q_cst, q_bin, q_neg, q_cmp, q_and, q_or, q_not, q_eife, q_tup, q_lst, q_dic, q_ix, q_slc, q_cal, q_blt, q_enil, q_econs, q_met, q_raise, q_gst, q_gni, q_glb, r_for, r_lc, r_var, r_ix_ob, r_sl_ob, r_put_ob, r_len_ob, r_tup_ob, r_lst_ob, r_addl, r_app, r_it_ob, r_in_ob, r_nin_ob, optI, Rf.start, e4, c2.1, wl2, r1, sizeLine]
        rw [cc, R.stm_ok, r_tbl, R.stm_ok, if_pos rfl, ← eσ, hr]
        rfl
      · have cc : evalE W (callF W L K) none (.and (.cmp .eq (.ix (.var 3) (.cst (.int 0))) (.cst (.str ['0']))) (.cmp .gt (.blt .len [(.var 3)]) (.cst (.int 1)))) [some (.str s), some (.int (pre.length : Int)), some (.int ((pre.length + w.length : Nat) : Int)), some (.str w)] h = .ok (.bl false) h := by
          by_cases c3 : c = '0'
          · have r0 : r = [] := Classical.byContradiction fun q => c2 ⟨c3, q⟩
            have r1 : ¬ (1 : Int) < (w.length : Int) := by rw [wlr, r0]; simp
            simp [q_set, q_put, q_expr, q_ret, q_retN, q_ife, q_cons, q_nil, q_cst, q_bin, q_neg, q_cmp, q_and, q_or, q_not, q_eife, q_tup, q_lst, q_dic, q_ix, q_slc, q_cal, q_blt, q_enil, q_econs, q_met, q_raise, q_gst, q_gni, q_glb, r_for, r_lc, r_var, r_ix_ob, r_sl_ob, r_put_ob, r_len_ob, r_tup_ob, r_lst_ob, r_addl, r_app, r_it_ob, r_in_ob, r_nin_ob, optI, Rf.start, e4, c3, wl2, r1, sizeLine]
          · simp [q_set, q_put, q_expr, q_ret, q_retN, q_ife, q_cons, q_nil, q_cst, q_bin, q_neg, q_cmp, q_and, q_or, q_not, q_eife, q_tup, q_lst, q_dic, q_ix, q_slc, q_cal, q_blt, q_enil, q_econs, q_met, q_raise, q_gst, q_gni, q_glb, r_for, r_lc, r_var, r_ix_ob, r_sl_ob, r_put_ob, r_len_ob, r_tup_ob, r_lst_ob, r_addl, r_app, r_it_ob, r_in_ob, r_nin_ob, optI, Rf.start, e4, c3, wl2, sizeLine]
        have c4 : hd? tl NCH.contains = true := by
          rcases hw with q | q | ⟨r', q, q2⟩ | q
          · exact absurd q h5
          · exact absurd q h8
          · rw [ew] at q
            simp only [List.cons.injEq] at q
            exact absurd ⟨q.1, by rw [q.2]; exact q2⟩ c2
          · exact q
        rw [cc, R.stm_ok, r_tbl, R.stm_ok, if_neg (by decide), q_nil, RS.then_nx, q_cons, q_ife]
        cases tl with
        | nil => cases c4
        | cons c' r' =>
          have c5 : NCH.contains c' = true := c4
          have hlt : ((pre.length + w.length : Nat) : Int) < (s.length : Int) := by rw [hs]; simp; omega
          have ei := ix_at (cs := W.cons) (h := h) (s := s) (pre := pre ++ w) (r := r') (c := c') (by rw [hs]; simp) hl
          rw [List.length_append] at ei
          have e6 := in_str (cs := W.cons) (h := h) (c := c') (z := NCH)
          rw [c5] at e6
          have cc : evalE W (callF W L K) none (.and (.cmp .lt (.var 2) (.blt .len [(.var 0)])) (.cmp .in_ (.ix (.var 0) (.var 2)) (.gst 3 NCH))) [some (.str s), some (.int (pre.length : Int)), some (.int ((pre.length + w.length : Nat) : Int)), some (.str w)] h = .ok (.bl true) h := by
            generalize pre.length + w.length = k at hlt ei ⊢
            generalize NCH = z at e6 ⊢
            simp [q_set, q_put, q_expr, q_ret, q_retN, q_ife, q_cons, q_nil, q_cst, q_bin, q_neg, q_cmp, q_and, q_or, q_not, q_eife, q_tup, q_lst, q_dic, q_ix, q_slc, q_cal, q_blt, q_enil, q_econs, q_met, q_raise, q_gst, q_gni, q_glb, r_for, r_lc, r_var, r_ix_ob, r_sl_ob, r_put_ob, r_len_ob, r_tup_ob, r_lst_ob, r_addl, r_app, r_it_ob, r_in_ob, r_nin_ob, optI, Rf.start, l16, hlt, ei, e6, sizeLine]
          rw [cc, R.stm_ok, r_tbl, R.stm_ok, if_pos rfl, ← eσ, hr]
          rfl
  cases hb with
  | @ch c hc =>
    obtain ⟨_, n1, n2, n3⟩ := bc_no hc
    refine tok (c := c) (r := tail) (i := 10) (by rw [hs]; rfl) (.inr (.inr ⟨n1, n2, rfl⟩)) ?_
    rw [callF_s (hW 10 _ (by decide) rfl) rfl]
    obtain ⟨s2', e⟩ := sign_bad hW ⟨x1, x2, x3⟩ L K c n3 pre tail s h (by rw [hs]; rfl) SIG none (fun p hp => hp)
    have es : Rf.start f_read_sign.ns [D.str s, .int (pre.length : Int)] = [some (.str s), some (.int (pre.length : Int)), none] := rfl
    have eb : f_read_sign.body = [.for_ (.nm 2) .seq [(.glb 1)] bodyS, .raise 1 [(.var 1)]] := rfl
    have it : evalEs W (callF W L K) none [(.glb 1)] [some (.str s), some (.int (pre.length : Int)), none] h = .ok [.con 1] h := by simp [q_set, q_put, q_expr, q_ret, q_retN, q_ife, q_cons, q_nil, q_cst, q_bin, q_neg, q_cmp, q_and, q_or, q_not, q_eife, q_tup, q_lst, q_dic, q_ix, q_slc, q_cal, q_blt, q_enil, q_econs, q_met, q_raise, q_gst, q_gni, q_glb, r_for, r_lc, r_var, r_ix_ob, r_sl_ob, r_put_ob, r_len_ob, r_tup_ob, r_lst_ob, r_addl, r_app, r_it_ob, r_in_ob, r_nin_ob, optI, Rf.start]
    have ii : itemsI W.cons .seq [.con 1] h = some (SIG.map D.str, .none, h) := by
      have e0 : W.cons[1]? = some (SIG.map D.str) := by rw [hK]; rfl
      simp only [itemsI, e0]
      rfl
    rw [es, eb, q_cons, r_for, it, R.stm_ok, ii, ofO_some, R.stm_ok]
    dsimp only
    rw [e, RS.then_nx]
    simp [q_set, q_put, q_expr, q_ret, q_retN, q_ife, q_cons, q_nil, q_cst, q_bin, q_neg, q_cmp, q_and, q_or, q_not, q_eife, q_tup, q_lst, q_dic, q_ix, q_slc, q_cal, q_blt, q_enil, q_econs, q_met, q_raise, q_gst, q_gni, q_glb, r_for, r_lc, r_var, r_ix_ob, r_sl_ob, r_put_ob, r_len_ob, r_tup_ob, r_lst_ob, r_addl, r_app, r_it_ob, r_in_ob, r_nin_ob, optI, Rf.start, x1]
  | @long c r hc ha hl20 =>
    refine tok (c := c) (r := r ++ tail) (i := 12) (by rw [hs]; rfl) (.inl ⟨hc, rfl⟩) ?_
    rw [callF_s (hW 12 _ (by decide) rfl) rfl]
    have la : last? (c :: r) = true := by
      unfold last?
      have ne : (c :: r) ≠ [] := by simp
      rw [List.getLast?_eq_some_getLast ne]
      exact ha _ (List.getLast_mem ne)
    have e1 := run_ok hW L hL K (by omega) NCH (c :: r) pre tail s h hs hl ha (ht la)
    have e2 := cut_at hs
    obtain ⟨w, ew⟩ : ∃ w, w = c :: r := ⟨_, rfl⟩
    rw [← ew] at e1 e2 hl20
    have wl : w.length ≤ 20000 := by rw [hs] at hl; simp at hl; rw [ew]; simp; omega
    have wl2 : w.length ≤ 16777216 := by omega
    have wl3 : (20 : Int) < (w.length : Int) := by omega
    generalize pre.length + w.length = k at e1 e2 ⊢
    simp [q_set, q_put, q_expr, q_ret, q_retN, q_ife, q_cons, q_nil, q_cst, q_bin, q_neg, q_cmp, q_and, q_or, q_not, q_eife, q_tup, q_lst, q_dic, q_ix, q_slc, q_cal, q_blt, q_enil, q_econs, q_met, q_raise, q_gst, q_gni, q_glb, r_for, r_lc, r_var, r_ix_ob, r_sl_ob, r_put_ob, r_len_ob, r_tup_ob, r_lst_ob, r_addl, r_app, r_it_ob, r_in_ob, r_nin_ob, optI, Rf.start, f_read_word, e1, e2, slD, l16, wl2, wl3, x1, sizeLine]
  | num wne wd hw =>
    obtain ⟨c, r, ew⟩ : ∃ c r, b = c :: r := by
      cases b with
      | nil => exact absurd rfl wne
      | cons c r => exact ⟨c, r, rfl⟩
    have hc := wd c (by rw [ew]; simp)
    refine tok (c := c) (r := r ++ tail) (i := 11) (by rw [hs, ew]; rfl) (.inr (.inl ⟨(dig_no hc).2, hc, rfl⟩)) ?_
    have la : last? b = true := by
      unfold last?
      rw [List.getLast?_eq_some_getLast wne]
      exact List.contains_iff_mem.mpr (List.mem_cons_of_mem _ (List.mem_append_left (as := DIG) LET (List.contains_iff_mem.mp (wd _ (List.getLast_mem wne)))))
    have ht' := ht la
    refine num b tail wne wd hs ?_ (by rcases hw with q | q | q; exact .inl q; exact .inr (.inl q); exact .inr (.inr (.inl q)))
    cases tail with
    | nil => rfl
    | cons x tl =>
      have q1 : NCH.contains x = false := ht'
      show DIG.contains x = false
      cases hq : DIG.contains x with
      | false => rfl
      | true =>
        have h2 : NCH.contains x = true := List.contains_iff_mem.mpr (List.mem_cons_of_mem _ (List.mem_append_left (as := DIG) LET (List.contains_iff_mem.mp hq)))
        rw [h2] at q1
        cases q1
  | @tail w c r wne wd hn hd =>
    obtain ⟨c0, r0, ew⟩ : ∃ c r, w = c :: r := by
      cases w with
      | nil => exact absurd rfl wne
      | cons c r => exact ⟨c, r, rfl⟩
    have hc := wd c0 (by rw [ew]; simp)
    refine tok (c := c0) (r := r0 ++ (c :: r ++ tail)) (i := 11) (by rw [hs, ew]; simp) (.inr (.inl ⟨(dig_no hc).2, hc, rfl⟩)) ?_
    exact num w (c :: r ++ tail) wne wd (by rw [hs]; simp) hd (.inr (.inr (.inr hn)))
end
end K01
end

section
namespace K01
open PySem PySem.Spec PyProof.Rows L2 Rf
theorem Bd.hd {b : LC} (hb : Bd b) (t : LC) : hd? (b ++ t) blc = false := by
  cases hb with
  | ch hc => exact (bc_no hc).1
  | long hc _ _ => exact let_no hc
  | num wne wd _ =>
    cases b with
    | nil => exact absurd rfl wne
    | cons c r => exact (dig_no (wd c List.mem_cons_self)).1
  | @tail w c r wne wd _ _ =>
    cases w with
    | nil => exact absurd rfl wne
    | cons c0 r0 => exact (dig_no (wd c0 List.mem_cons_self)).1
theorem Bd.ne {b : LC} (hb : Bd b) : b ≠ [] := by
  cases hb with
  | ch _ => simp
  | long _ _ _ => simp
  | num q _ _ => exact q
  | tail _ _ _ _ => simp
def okR : Qs → LC → Prop
  | [], _ => True
  | x :: r, t => x.1.ok ∧ x.2 ∈ SPC ∧ tc x.1 (x.2 ++ (tx r ++ t)) ∧ okR r t
theorem okR_hd {qs : Qs} {b t : LC} (hb : Bd b) (h : okR qs (b ++ t)) : hd? (tx qs ++ (b ++ t)) blc = false := by
  cases qs with
  | nil => exact hb.hd t
  | cons x r =>
    have : tx (x :: r) ++ (b ++ t) = x.1.t ++ (x.2 ++ tx r ++ (b ++ t)) := by simp [tx]
    rw [this]
    exact x.1.blk h.1 _
theorem tc_of {x : Pc} (hx : x.ok) {sx : LC} (hs : sx ∈ SPC) {g : Gs} (hg : okG g) (hj : sx = [] → ∀ y ∈ g.head?, jnB x.t y.1 = false) : tc x (sx ++ txG g) := by
  by_cases h0 : sx = []
  · have h3 := hj h0
    rw [h0, List.nil_append]
    cases g with
    | nil =>
      unfold tc
      cases x <;> first | rfl | (intro _; rfl)
    | cons y r =>
      have j := h3 y rfl
      obtain ⟨c, rr, e⟩ : ∃ c r, y.1 = c :: r := by
        cases q : y.1 with
        | nil => exact absurd q hg.1.1
        | cons c r => exact ⟨c, r, rfl⟩
      have et : txG (y :: r) = c :: (rr ++ (y.2 ++ txG r)) := by simp [txG, e]
      rw [et]
      unfold jnB at j
      rw [Bool.or_eq_false_iff, e] at j
      have notsign : (∀ w, x ≠ .sign w) → NCH.contains c = false := by
        intro hn
        obtain ⟨d, e1, e2⟩ := x.last hx hn
        have j1 := j.1
        rw [e1] at j1
        have j2 : (NCH.contains d && NCH.contains c) = false := j1
        rw [e2, Bool.true_and] at j2
        exact j2
      cases hq : x with
      | sign w =>
        intro hw
        have j2 := j.2
        rw [hq] at j2
        show (c == '=') = false
        rcases hw with rfl | rfl
        · simpa [Pc.t] using j2
        · simpa [Pc.t] using j2
      | word w => exact notsign (by rw [hq]; simp)
      | name w => exact notsign (by rw [hq]; simp)
      | num w => exact notsign (by rw [hq]; simp)
  · have q := spc_hd hs h0 (txG g)
    unfold tc
    cases x with
    | sign w => exact fun _ => q.2
    | _ => exact q.1
theorem conv : ∀ (good : List Pc) (gs : Gs) (b : LC) (rest : List LC) (n : Nat), (∀ x ∈ good, x.ok) → gs.map (·.1) = good.map Pc.t ++ b :: rest → okG gs →
    ∃ (qs : Qs) (tail : LC), qs.length = good.length ∧ txG gs = tx qs ++ (b ++ tail) ∧ okR qs (b ++ tail) ∧ (plc n gs)[good.length]? = some (.int ((n + (tx qs).length : Nat) : Int)) ∧ (last? b = true → hd? tail NCH.contains = false)
  | [], gs, b, rest, n, _, e, ho => by
    cases gs with
    | nil => simp at e
    | cons y g =>
      simp only [List.map_cons, List.map_nil, List.nil_append, List.cons.injEq] at e
      obtain ⟨e1, _⟩ := e
      subst e1
      refine ⟨[], y.2 ++ txG g, rfl, by simp [tx, txG], trivial, by simp [plc, tx], fun hb => ?_⟩
      by_cases h0 : y.2 = []
      · have hj := ho.2.2.1 h0
        rw [h0, List.nil_append]
        cases g with
        | nil => rfl
        | cons z r =>
          have j := hj z rfl
          obtain ⟨c, rr, e⟩ : ∃ c r, z.1 = c :: r := by
            cases q : z.1 with
            | nil => exact absurd q ho.2.2.2.1.1
            | cons c r => exact ⟨c, r, rfl⟩
          have et : txG (z :: r) = c :: (rr ++ (z.2 ++ txG r)) := by simp [txG, e]
          rw [et]
          unfold jnB at j
          rw [Bool.or_eq_false_iff, e] at j
          have j1 : (last? y.1 && NCH.contains c) = false := j.1
          rw [hb, Bool.true_and] at j1
          exact j1
      · exact (spc_hd ho.2.1 h0 _).1
  | x :: good, gs, b, rest, n, hg, e, ho => by
    cases gs with
    | nil => simp at e
    | cons y g =>
      simp only [List.map_cons, List.cons_append, List.cons.injEq] at e
      obtain ⟨e1, e2⟩ := e
      obtain ⟨qs, tail, q1, q2, q3, q4, q5⟩ := conv good g b rest (n + y.1.length + y.2.length) (fun z hz => hg z (List.mem_cons_of_mem _ hz)) e2 ho.2.2.2
      have hx := hg x List.mem_cons_self
      refine ⟨(x, y.2) :: qs, tail, by simp [q1], by simp [tx, txG, e1, q2], ⟨hx, ho.2.1, ?_, q3⟩, ?_, q5⟩
      · rw [← q2]
        exact tc_of hx ho.2.1 ho.2.2.2 (by rw [← e1]; exact ho.2.2.1)
      · simp only [List.length_cons, plc, List.getElem?_cons_succ]
        rw [q4]
        simp only [tx, List.length_append, e1]
        congr 2
        omega
abbrev bodyK : List S := [.setT [3, 4, 5] (.cal 13 [(.var 0), (.var 2)]),
    .expr (.met (.var 1) "append" [(.tup [(.var 3), (.var 4), (.var 2)])]),
    .set 2 (.cal 16 [(.var 0), (.var 5)])]
abbrev condK : E := .cmp .lt (.var 2) (.blt .len [(.var 0)])
variable {W : Wd} (hW : Has W) (hK : HasK W) (hE : HasE W) (L : Nat)
section
include hW hK hE
theorem bad_loop (hL : 20001 ≤ L) (M : Nat) (hM : 3 ≤ M) (y : Nat) (s : LC) (hl : s.length ≤ 20000) {b tail : LC} (hb : Bd b) (ht : last? b = true → hd? tail NCH.contains = false) : ∀ (qs : Qs) (pre : LC) (acc : List D) (s3 s4 s5 : Option D) (Lf : Nat) (h : Hs), qs.length < Lf → okR qs (b ++ tail) → s = pre ++ (tx qs ++ (b ++ tail)) → h[y]? = some (.lst acc) → acc.length + qs.length ≤ 100 →
    ∃ (h' : Hs) (σ' : Sg), whileI (fun σ h => (evalE W (callF W L M) none condK σ h).bind fun x h => truthR x h) (evalB W L (callF W L M) none bodyK) Lf [some (.str s), some (.ob y), some (.int (pre.length : Int)), s3, s4, s5] h = .exc 1 [("at", .int ((pre.length + (tx qs).length : Nat) : Int))] σ' h' ∧ Kp y h h' := by
  intro qs
  induction qs with
  | nil =>
    intro pre acc s3 s4 s5 Lf h hLf ho hs hy hn
    obtain ⟨l, rfl⟩ : ∃ l, Lf = l + 1 := ⟨Lf - 1, by simp at hLf; omega⟩
    refine ⟨h, [some (.str s), some (.ob y), some (.int (pre.length : Int)), s3, s4, s5], ?_, Kp.refl⟩
    have hl2 : s.length ≤ 16777216 := by omega
    have bl : 0 < b.length := List.length_pos_iff.mpr hb.ne
    have hs' : s = pre ++ (b ++ tail) := by rw [hs]; rfl
    have hlt : (pre.length : Int) < (s.length : Int) := by rw [hs']; simp; omega
    have e1 := bad_token hW hK hE L hL M hM hb pre tail s h hs' hl ht
    have ec : (evalE W (callF W L M) none condK [some (.str s), some (.ob y), some (.int (pre.length : Int)), s3, s4, s5] h).bind (fun x h => truthR x h) = .ok true h := by
      simp [q_set, q_put, q_expr, q_ret, q_retN, q_ife, q_cons, q_nil, q_cst, q_bin, q_neg, q_cmp, q_and, q_or, q_not, q_eife, q_tup, q_lst, q_dic, q_ix, q_slc, q_cal, q_blt, q_enil, q_econs, q_met, q_raise, q_gst, q_gni, q_glb, r_for, r_lc, r_var, r_ix_ob, r_sl_ob, r_put_ob, r_len_ob, r_tup_ob, r_lst_ob, r_addl, r_app, r_it_ob, r_in_ob, r_nin_ob, optI, Rf.start, hl2, hlt, sizeLine]
    have b1 : evalS W L (callF W L M) none (.setT [3, 4, 5] (.cal 13 [(.var 0), (.var 2)])) [some (.str s), some (.ob y), some (.int (pre.length : Int)), s3, s4, s5] h = .exc 1 [("at", .int (pre.length : Int))] [some (.str s), some (.ob y), some (.int (pre.length : Int)), s3, s4, s5] h := by
      have ecall : evalE W (callF W L M) none (.cal 13 [(.var 0), (.var 2)]) [some (.str s), some (.ob y), some (.int (pre.length : Int)), s3, s4, s5] h = .exc 1 [("at", .int (pre.length : Int))] h := by
        simp [q_set, q_put, q_expr, q_ret, q_retN, q_ife, q_cons, q_nil, q_cst, q_bin, q_neg, q_cmp, q_and, q_or, q_not, q_eife, q_tup, q_lst, q_dic, q_ix, q_slc, q_cal, q_blt, q_enil, q_econs, q_met, q_raise, q_gst, q_gni, q_glb, r_for, r_lc, r_var, r_ix_ob, r_sl_ob, r_put_ob, r_len_ob, r_tup_ob, r_lst_ob, r_addl, r_app, r_it_ob, r_in_ob, r_nin_ob, optI, Rf.start, e1]
      simp only [evalS]
      rw [ecall]
      rfl
    unfold whileI
    rw [ec, R.stm_ok, if_pos rfl, q_cons, b1, RS.then_exc]
    rfl
  | cons x r ih =>
    intro pre acc s3 s4 s5 Lf h hLf ho hs hy hn
    obtain ⟨l, rfl⟩ : ∃ l, Lf = l + 1 := ⟨Lf - 1, by simp at hLf; omega⟩
    have hl2 : s.length ≤ 16777216 := by omega
    obtain ⟨p, sp⟩ := x
    obtain ⟨h1, h2, hto, h4⟩ := ho
    simp only at h1 h2 hto
    have hs1 : s = pre ++ (p.t ++ (sp ++ (tx r ++ (b ++ tail)))) := by rw [hs]; simp [tx]
    have pl := p.len h1
    have hlt : (pre.length : Int) < (s.length : Int) := by rw [hs1]; simp; omega
    have e1 := token_ok hW hK L hL M hM h1 pre (sp ++ (tx r ++ (b ++ tail))) s h hs1 hl hto
    have yl := lk_lt hy
    have al : acc.length < 16777216 := by simp at hn; omega
    have hs2 : s = (pre ++ p.t) ++ (sp ++ (tx r ++ (b ++ tail))) := by rw [hs1]; simp
    obtain ⟨h2', eh⟩ : ∃ h2', h2' = h.set y (.lst (acc ++ [.tup [.str p.k, p.v, .int (pre.length : Int)]])) := ⟨_, rfl⟩
    have e2 := blank_ok hW L hL M (by omega) (spc_bl h2) (pre ++ p.t) (tx r ++ (b ++ tail)) s h2' hs2 hl (okR_hd hb h4)
    have y2 : h2'[y]? = some (.lst (acc ++ [.tup [.str p.k, p.v, .int (pre.length : Int)]])) := by rw [eh]; simp [yl]
    have ll : (pre ++ p.t ++ sp).length = (pre ++ p.t).length + sp.length := List.length_append
    have k1 : Kp y h h2' := by rw [eh]; exact Kp.set
    obtain ⟨h', σ', e9, k9⟩ := ih (pre ++ p.t ++ sp) (acc ++ [.tup [.str p.k, p.v, .int (pre.length : Int)]]) (some (.str p.k)) (some p.v) (some (.int ((pre.length + p.t.length : Nat) : Int))) l h2' (by simp at hLf; omega) h4 (by rw [hs1]; simp) y2 (by simp at hn ⊢; omega)
    refine ⟨h', σ', ?_, k1.trans k9⟩
    have ec : (evalE W (callF W L M) none condK [some (.str s), some (.ob y), some (.int (pre.length : Int)), s3, s4, s5] h).bind (fun x h => truthR x h) = .ok true h := by
      simp [q_set, q_put, q_expr, q_ret, q_retN, q_ife, q_cons, q_nil, q_cst, q_bin, q_neg, q_cmp, q_and, q_or, q_not, q_eife, q_tup, q_lst, q_dic, q_ix, q_slc, q_cal, q_blt, q_enil, q_econs, q_met, q_raise, q_gst, q_gni, q_glb, r_for, r_lc, r_var, r_ix_ob, r_sl_ob, r_put_ob, r_len_ob, r_tup_ob, r_lst_ob, r_addl, r_app, r_it_ob, r_in_ob, r_nin_ob, optI, Rf.start, hl2, hlt, sizeLine]
    have b1 : evalS W L (callF W L M) none (.setT [3, 4, 5] (.cal 13 [(.var 0), (.var 2)])) [some (.str s), some (.ob y), some (.int (pre.length : Int)), s3, s4, s5] h = .ok (.nx [some (.str s), some (.ob y), some (.int (pre.length : Int)), some (.str p.k), some p.v, some (.int ((pre.length + p.t.length : Nat) : Int))]) h := by
      have ecall : evalE W (callF W L M) none (.cal 13 [(.var 0), (.var 2)]) [some (.str s), some (.ob y), some (.int (pre.length : Int)), s3, s4, s5] h = .ok (.tup [.str p.k, p.v, .int ((pre.length + p.t.length : Nat) : Int)]) h := by
        generalize pre.length + p.t.length = k at e1 ⊢
        simp [q_set, q_put, q_expr, q_ret, q_retN, q_ife, q_cons, q_nil, q_cst, q_bin, q_neg, q_cmp, q_and, q_or, q_not, q_eife, q_tup, q_lst, q_dic, q_ix, q_slc, q_cal, q_blt, q_enil, q_econs, q_met, q_raise, q_gst, q_gni, q_glb, r_for, r_lc, r_var, r_ix_ob, r_sl_ob, r_put_ob, r_len_ob, r_tup_ob, r_lst_ob, r_addl, r_app, r_it_ob, r_in_ob, r_nin_ob, optI, Rf.start, e1]
      simp only [evalS]
      rw [ecall]
      rfl
    have b2 : evalS W L (callF W L M) none (.expr (.met (.var 1) "append" [(.tup [(.var 3), (.var 4), (.var 2)])])) [some (.str s), some (.ob y), some (.int (pre.length : Int)), some (.str p.k), some p.v, some (.int ((pre.length + p.t.length : Nat) : Int))] h = .ok (.nx [some (.str s), some (.ob y), some (.int (pre.length : Int)), some (.str p.k), some p.v, some (.int ((pre.length + p.t.length : Nat) : Int))]) h2' := by
      rw [eh]
      simp [q_set, q_put, q_expr, q_ret, q_retN, q_ife, q_cons, q_nil, q_cst, q_bin, q_neg, q_cmp, q_and, q_or, q_not, q_eife, q_tup, q_lst, q_dic, q_ix, q_slc, q_cal, q_blt, q_enil, q_econs, q_met, q_raise, q_gst, q_gni, q_glb, r_for, r_lc, r_var, r_ix_ob, r_sl_ob, r_put_ob, r_len_ob, r_tup_ob, r_lst_ob, r_addl, r_app, r_it_ob, r_in_ob, r_nin_ob, optI, Rf.start, r_metapp hy, hy, al, sizeLine]
    have b3 : evalS W L (callF W L M) none (.set 2 (.cal 16 [(.var 0), (.var 5)])) [some (.str s), some (.ob y), some (.int (pre.length : Int)), some (.str p.k), some p.v, some (.int ((pre.length + p.t.length : Nat) : Int))] h2' = .ok (.nx [some (.str s), some (.ob y), some (.int ((pre ++ p.t ++ sp).length : Int)), some (.str p.k), some p.v, some (.int ((pre.length + p.t.length : Nat) : Int))]) h2' := by
      rw [ll, List.length_append (as := pre)]
      rw [List.length_append (as := pre)] at e2
      generalize pre.length + p.t.length = k at e2 ⊢
      generalize k + sp.length = k2 at e2 ⊢
      simp [q_set, q_put, q_expr, q_ret, q_retN, q_ife, q_cons, q_nil, q_cst, q_bin, q_neg, q_cmp, q_and, q_or, q_not, q_eife, q_tup, q_lst, q_dic, q_ix, q_slc, q_cal, q_blt, q_enil, q_econs, q_met, q_raise, q_gst, q_gni, q_glb, r_for, r_lc, r_var, r_ix_ob, r_sl_ob, r_put_ob, r_len_ob, r_tup_ob, r_lst_ob, r_addl, r_app, r_it_ob, r_in_ob, r_nin_ob, optI, Rf.start, e2]
    have en : (pre ++ p.t ++ sp).length + (tx r).length = pre.length + (tx ((p, sp) :: r)).length := by
      simp only [tx, List.length_append]; omega
    rw [en] at e9
    unfold whileI
    rw [ec, R.stm_ok, if_pos rfl, q_cons, b1, RS.then_nx, q_cons, b2, RS.then_nx, q_cons, b3, RS.then_nx, q_nil]
    exact e9
theorem tokens_bad (hL : 20001 ≤ L) (N : Nat) (hN : 4 ≤ N) {sp : LC} (hsp : sp ∈ SPC) {qs : Qs} {b tail : LC} (hb : Bd b) (ht : last? b = true → hd? tail NCH.contains = false) (ho : okR qs (b ++ tail)) (hq : qs.length ≤ 50) (h : Hs) (hl : (sp ++ (tx qs ++ (b ++ tail))).length ≤ 20000) :
    ∃ h', callF W L N 17 [.str (sp ++ (tx qs ++ (b ++ tail)))] h = .exc 1 [("at", .int ((sp.length + (tx qs).length : Nat) : Int))] h' ∧ Kx h h' := by
  obtain ⟨M, rfl⟩ : ∃ M, N = M + 1 := ⟨N - 1, by omega⟩
  rw [callF_s (hW 17 _ (by decide) rfl) rfl]
  obtain ⟨s, hs⟩ : ∃ s, s = sp ++ (tx qs ++ (b ++ tail)) := ⟨_, rfl⟩
  rw [← hs] at hl ⊢
  have hl2 : s.length ≤ 16777216 := by omega
  have hl3 : ¬ (20000 : Int) < (s.length : Int) := by omega
  have e2 := blank_ok hW L hL M (by omega) (spc_bl hsp) [] (tx qs ++ (b ++ tail)) s (h ++ [.lst []]) (by rw [hs]; rfl) hl (okR_hd hb ho)
  obtain ⟨h', σ', e9, k9⟩ := bad_loop hW hK hE L hL M (by omega) h.length s hl hb ht qs sp [] none none none L (h ++ [.lst []]) (by omega) ho hs lk_new (by simpa using (by omega : qs.length ≤ 100))
  refine ⟨h', ?_, Kx.of_new Kx.app (Nat.le_refl _) k9⟩
  have es : Rf.start f_tokens.ns [D.str s] = [some (.str s), none, none, none, none, none] := rfl
  have eb : f_tokens.body = [.ife (.cmp .gt (.blt .len [(.var 0)]) (.gni 0 (20000))) [.raise 2 [(.cst (.str ['t', 'e', 'x', 't']))]] [], .set 1 (.lst []), .set 2 (.cal 16 [(.var 0), (.cst (.int 0))]), .whl condK bodyK, .ret (.var 1)] := rfl
  have t1 : evalS W L (callF W L M) none (.ife (.cmp .gt (.blt .len [(.var 0)]) (.gni 0 (20000))) [.raise 2 [(.cst (.str ['t', 'e', 'x', 't']))]] []) [some (.str s), none, none, none, none, none] h = .ok (.nx [some (.str s), none, none, none, none, none]) h := by
    simp [q_set, q_put, q_expr, q_ret, q_retN, q_ife, q_cons, q_nil, q_cst, q_bin, q_neg, q_cmp, q_and, q_or, q_not, q_eife, q_tup, q_lst, q_dic, q_ix, q_slc, q_cal, q_blt, q_enil, q_econs, q_met, q_raise, q_gst, q_gni, q_glb, r_for, r_lc, r_var, r_ix_ob, r_sl_ob, r_put_ob, r_len_ob, r_tup_ob, r_lst_ob, r_addl, r_app, r_it_ob, r_in_ob, r_nin_ob, optI, Rf.start, hl2, hl3, sizeLine]
  have t2 : evalS W L (callF W L M) none (.set 1 (.lst [])) [some (.str s), none, none, none, none, none] h = .ok (.nx [some (.str s), some (.ob h.length), none, none, none, none]) (h ++ [.lst []]) := by simp [q_set, q_put, q_expr, q_ret, q_retN, q_ife, q_cons, q_nil, q_cst, q_bin, q_neg, q_cmp, q_and, q_or, q_not, q_eife, q_tup, q_lst, q_dic, q_ix, q_slc, q_cal, q_blt, q_enil, q_econs, q_met, q_raise, q_gst, q_gni, q_glb, r_for, r_lc, r_var, r_ix_ob, r_sl_ob, r_put_ob, r_len_ob, r_tup_ob, r_lst_ob, r_addl, r_app, r_it_ob, r_in_ob, r_nin_ob, optI, Rf.start, sizeLine]
  have t3 : evalS W L (callF W L M) none (.set 2 (.cal 16 [(.var 0), (.cst (.int 0))])) [some (.str s), some (.ob h.length), none, none, none, none] (h ++ [.lst []]) = .ok (.nx [some (.str s), some (.ob h.length), some (.int (sp.length : Int)), none, none, none]) (h ++ [.lst []]) := by
    simp only [List.length_nil, Nat.zero_add, Int.ofNat_zero] at e2
    have e2' : callF W L M 16 [.str s, .int 0] (h ++ [.lst []]) = .ok (.int (sp.length : Int)) (h ++ [.lst []]) := e2
    simp [q_set, q_put, q_expr, q_ret, q_retN, q_ife, q_cons, q_nil, q_cst, q_bin, q_neg, q_cmp, q_and, q_or, q_not, q_eife, q_tup, q_lst, q_dic, q_ix, q_slc, q_cal, q_blt, q_enil, q_econs, q_met, q_raise, q_gst, q_gni, q_glb, r_for, r_lc, r_var, r_ix_ob, r_sl_ob, r_put_ob, r_len_ob, r_tup_ob, r_lst_ob, r_addl, r_app, r_it_ob, r_in_ob, r_nin_ob, optI, Rf.start, e2']
  rw [es, eb, q_cons, t1, RS.then_nx, q_cons, t2, RS.then_nx, q_cons, t3, RS.then_nx, q_cons, r_whl, e9, RS.then_exc]
  rfl
/-- blanks alone -/
theorem tokens_blank (hL : 20001 ≤ L) (N : Nat) (hN : 4 ≤ N) (s : LC) (hB : BL s) (h : Hs) (hl : s.length ≤ 20000) : ∃ h', callF W L N 17 [.str s] h = .ok (.ob h.length) h' := by
  obtain ⟨M, rfl⟩ : ∃ M, N = M + 1 := ⟨N - 1, by omega⟩
  rw [callF_s (hW 17 _ (by decide) rfl) rfl]
  have hl2 : s.length ≤ 16777216 := by omega
  have hl3 : ¬ (20000 : Int) < (s.length : Int) := by omega
  have e2 := blank_ok hW L hL M (by omega) hB [] [] s (h ++ [.lst []]) (by simp) hl rfl
  have e2' : callF W L M 16 [.str s, .int 0] (h ++ [.lst []]) = .ok (.int (s.length : Int)) (h ++ [.lst []]) := by
    simp only [List.length_nil, Nat.zero_add] at e2
    exact e2
  obtain ⟨l, rfl⟩ : ∃ l, L = l + 1 := ⟨L - 1, by omega⟩
  have nlt : ¬ (s.length : Int) < (s.length : Int) := by omega
  refine ⟨h ++ [.lst []], ?_⟩
  have es : Rf.start f_tokens.ns [D.str s] = [some (.str s), none, none, none, none, none] := rfl
  have eb : f_tokens.body = [.ife (.cmp .gt (.blt .len [(.var 0)]) (.gni 0 (20000))) [.raise 2 [(.cst (.str ['t', 'e', 'x', 't']))]] [], .set 1 (.lst []), .set 2 (.cal 16 [(.var 0), (.cst (.int 0))]), .whl condK bodyK, .ret (.var 1)] := rfl
  have t1 : evalS W (l + 1) (callF W (l + 1) M) none (.ife (.cmp .gt (.blt .len [(.var 0)]) (.gni 0 (20000))) [.raise 2 [(.cst (.str ['t', 'e', 'x', 't']))]] []) [some (.str s), none, none, none, none, none] h = .ok (.nx [some (.str s), none, none, none, none, none]) h := by
    simp [q_set, q_put, q_expr, q_ret, q_retN, q_ife, q_cons, q_nil, q_cst, q_bin, q_neg, q_cmp, q_and, q_or, q_not, q_eife, q_tup, q_lst, q_dic, q_ix, q_slc, q_cal, q_blt, q_enil, q_econs, q_met, q_raise, q_gst, q_gni, q_glb, r_for, r_lc, r_var, r_ix_ob, r_sl_ob, r_put_ob, r_len_ob, r_tup_ob, r_lst_ob, r_addl, r_app, r_it_ob, r_in_ob, r_nin_ob, optI, Rf.start, hl2, hl3, sizeLine]
  have t2 : evalS W (l + 1) (callF W (l + 1) M) none (.set 1 (.lst [])) [some (.str s), none, none, none, none, none] h = .ok (.nx [some (.str s), some (.ob h.length), none, none, none, none]) (h ++ [.lst []]) := by simp [q_set, q_put, q_expr, q_ret, q_retN, q_ife, q_cons, q_nil, q_cst, q_bin, q_neg, q_cmp, q_and, q_or, q_not, q_eife, q_tup, q_lst, q_dic, q_ix, q_slc, q_cal, q_blt, q_enil, q_econs, q_met, q_raise, q_gst, q_gni, q_glb, r_for, r_lc, r_var, r_ix_ob, r_sl_ob, r_put_ob, r_len_ob, r_tup_ob, r_lst_ob, r_addl, r_app, r_it_ob, r_in_ob, r_nin_ob, optI, Rf.start, sizeLine]
  have t3 : evalS W (l + 1) (callF W (l + 1) M) none (.set 2 (.cal 16 [(.var 0), (.cst (.int 0))])) [some (.str s), some (.ob h.length), none, none, none, none] (h ++ [.lst []]) = .ok (.nx [some (.str s), some (.ob h.length), some (.int (s.length : Int)), none, none, none]) (h ++ [.lst []]) := by
    simp [q_set, q_put, q_expr, q_ret, q_retN, q_ife, q_cons, q_nil, q_cst, q_bin, q_neg, q_cmp, q_and, q_or, q_not, q_eife, q_tup, q_lst, q_dic, q_ix, q_slc, q_cal, q_blt, q_enil, q_econs, q_met, q_raise, q_gst, q_gni, q_glb, r_for, r_lc, r_var, r_ix_ob, r_sl_ob, r_put_ob, r_len_ob, r_tup_ob, r_lst_ob, r_addl, r_app, r_it_ob, r_in_ob, r_nin_ob, optI, Rf.start, e2']
  have ec : (evalE W (callF W (l + 1) M) none condK [some (.str s), some (.ob h.length), some (.int (s.length : Int)), none, none, none] (h ++ [.lst []])).bind (fun x h => truthR x h) = .ok false (h ++ [.lst []]) := by
    simp [q_set, q_put, q_expr, q_ret, q_retN, q_ife, q_cons, q_nil, q_cst, q_bin, q_neg, q_cmp, q_and, q_or, q_not, q_eife, q_tup, q_lst, q_dic, q_ix, q_slc, q_cal, q_blt, q_enil, q_econs, q_met, q_raise, q_gst, q_gni, q_glb, r_for, r_lc, r_var, r_ix_ob, r_sl_ob, r_put_ob, r_len_ob, r_tup_ob, r_lst_ob, r_addl, r_app, r_it_ob, r_in_ob, r_nin_ob, optI, Rf.start, hl2, sizeLine]
  have t4 : evalS W (l + 1) (callF W (l + 1) M) none (.whl condK bodyK) [some (.str s), some (.ob h.length), some (.int (s.length : Int)), none, none, none] (h ++ [.lst []]) = .ok (.nx [some (.str s), some (.ob h.length), some (.int (s.length : Int)), none, none, none]) (h ++ [.lst []]) := by
    rw [r_whl]
    unfold whileI
    rw [ec, R.stm_ok]
    rfl
  rw [es, eb, q_cons, t1, RS.then_nx, q_cons, t2, RS.then_nx, q_cons, t3, RS.then_nx, q_cons, t4, RS.then_nx]
  simp [q_set, q_put, q_expr, q_ret, q_retN, q_ife, q_cons, q_nil, q_cst, q_bin, q_neg, q_cmp, q_and, q_or, q_not, q_eife, q_tup, q_lst, q_dic, q_ix, q_slc, q_cal, q_blt, q_enil, q_econs, q_met, q_raise, q_gst, q_gni, q_glb, r_for, r_lc, r_var, r_ix_ob, r_sl_ob, r_put_ob, r_len_ob, r_tup_ob, r_lst_ob, r_addl, r_app, r_it_ob, r_in_ob, r_nin_ob, optI, Rf.start]
theorem tokens_long (N : Nat) (hN : 1 ≤ N) (s : LC) (h : Hs) (hl : 20000 < s.length) (hl2 : s.length ≤ 30000) : callF W L N 17 [.str s] h = .exc 2 [("limit", .str ['t', 'e', 'x', 't'])] h := by
  obtain ⟨M, rfl⟩ : ∃ M, N = M + 1 := ⟨N - 1, by omega⟩
  rw [callF_s (hW 17 _ (by decide) rfl) rfl]
  have l2 : s.length ≤ 16777216 := by omega
  have l3 : (20000 : Int) < (s.length : Int) := by omega
  have es : Rf.start f_tokens.ns [D.str s] = [some (.str s), none, none, none, none, none] := rfl
  have eb : f_tokens.body = [.ife (.cmp .gt (.blt .len [(.var 0)]) (.gni 0 (20000))) [.raise 2 [(.cst (.str ['t', 'e', 'x', 't']))]] [], .set 1 (.lst []), .set 2 (.cal 16 [(.var 0), (.cst (.int 0))]), .whl condK bodyK, .ret (.var 1)] := rfl
  have t1 : evalS W L (callF W L M) none (.ife (.cmp .gt (.blt .len [(.var 0)]) (.gni 0 (20000))) [.raise 2 [(.cst (.str ['t', 'e', 'x', 't']))]] []) [some (.str s), none, none, none, none, none] h = .exc 2 [("limit", .str ['t', 'e', 'x', 't'])] [some (.str s), none, none, none, none, none] h := by
    simp [q_set, q_put, q_expr, q_ret, q_retN, q_ife, q_cons, q_nil, q_cst, q_bin, q_neg, q_cmp, q_and, q_or, q_not, q_eife, q_tup, q_lst, q_dic, q_ix, q_slc, q_cal, q_blt, q_enil, q_econs, q_met, q_raise, q_gst, q_gni, q_glb, r_for, r_lc, r_var, r_ix_ob, r_sl_ob, r_put_ob, r_len_ob, r_tup_ob, r_lst_ob, r_addl, r_app, r_it_ob, r_in_ob, r_nin_ob, optI, Rf.start, l2, l3, hE.2.1, sizeLine]
  rw [es, eb, q_cons, t1, RS.then_exc]
  rfl
omit hK in
theorem told_exc (N : Nat) (hN : 1 ≤ N) (s : LC) (h h' : Hs) (k : Int) (e : callF W L (N - 1) 17 [.str s] h = .exc 1 [("at", .int k)] h') : callF W L N 18 [.str s] h = .ok (.tup [.str ['m', 'a', 'l', 'f', 'o', 'r', 'm', 'e', 'd'], .int k]) h' := by
  obtain ⟨M, rfl⟩ : ∃ M, N = M + 1 := ⟨N - 1, by omega⟩
  rw [callF_s (hW 18 _ (by decide) rfl) rfl]
  obtain ⟨x1, x2, x3⟩ := hE
  have e' : callF W L M 17 [.str s] h = .exc 1 [("at", .int k)] h' := e
  simp [q_set, q_put, q_expr, q_ret, q_retN, q_ife, q_cons, q_nil, q_cst, q_bin, q_neg, q_cmp, q_and, q_or, q_not, q_eife, q_tup, q_lst, q_dic, q_ix, q_slc, q_cal, q_blt, q_enil, q_econs, q_met, q_raise, q_gst, q_gni, q_glb, r_for, r_lc, r_var, r_ix_ob, r_sl_ob, r_put_ob, r_len_ob, r_tup_ob, r_lst_ob, r_addl, r_app, r_it_ob, r_in_ob, r_nin_ob, optI, Rf.start, f__law_told, q_try, q_hcons, q_hnil, q_exf, e', x1, x2, x3, List.lookup, sizeLine]
omit hK in
theorem told_big (N : Nat) (hN : 1 ≤ N) (s : LC) (h h' : Hs) (e : callF W L (N - 1) 17 [.str s] h = .exc 2 [("limit", .str ['t', 'e', 'x', 't'])] h') : callF W L N 18 [.str s] h = .ok (.tup [.str ['o', 'v', 'e', 'r', 's', 'i', 'z', 'e', 'd'], .str ['t', 'e', 'x', 't']]) h' := by
  obtain ⟨M, rfl⟩ : ∃ M, N = M + 1 := ⟨N - 1, by omega⟩
  rw [callF_s (hW 18 _ (by decide) rfl) rfl]
  obtain ⟨x1, x2, x3⟩ := hE
  have e' : callF W L M 17 [.str s] h = .exc 2 [("limit", .str ['t', 'e', 'x', 't'])] h' := e
  simp [q_set, q_put, q_expr, q_ret, q_retN, q_ife, q_cons, q_nil, q_cst, q_bin, q_neg, q_cmp, q_and, q_or, q_not, q_eife, q_tup, q_lst, q_dic, q_ix, q_slc, q_cal, q_blt, q_enil, q_econs, q_met, q_raise, q_gst, q_gni, q_glb, r_for, r_lc, r_var, r_ix_ob, r_sl_ob, r_put_ob, r_len_ob, r_tup_ob, r_lst_ob, r_addl, r_app, r_it_ob, r_in_ob, r_nin_ob, optI, Rf.start, f__law_told, q_try, q_hcons, q_hnil, q_exf, e', x1, x2, x3, List.lookup, sizeLine]
omit hK hE in
theorem told_fine (N : Nat) (hN : 1 ≤ N) (s : LC) (h h' : Hs) (z : Nat) (e : callF W L (N - 1) 17 [.str s] h = .ok (.ob z) h') : callF W L N 18 [.str s] h = .ok (.tup [.str ['f', 'i', 'n', 'e'], .int 0]) h' := by
  obtain ⟨M, rfl⟩ : ∃ M, N = M + 1 := ⟨N - 1, by omega⟩
  rw [callF_s (hW 18 _ (by decide) rfl) rfl]
  have e' : callF W L M 17 [.str s] h = .ok (.ob z) h' := e
  simp [q_set, q_put, q_expr, q_ret, q_retN, q_ife, q_cons, q_nil, q_cst, q_bin, q_neg, q_cmp, q_and, q_or, q_not, q_eife, q_tup, q_lst, q_dic, q_ix, q_slc, q_cal, q_blt, q_enil, q_econs, q_met, q_raise, q_gst, q_gni, q_glb, r_for, r_lc, r_var, r_ix_ob, r_sl_ob, r_put_ob, r_len_ob, r_tup_ob, r_lst_ob, r_addl, r_app, r_it_ob, r_in_ob, r_nin_ob, optI, Rf.start, f__law_told, q_try, q_hcons, q_hnil, q_exf, e', sizeLine]
end
end K01
end

section
namespace K01
open PySem PySem.Spec PyProof.Rows L2 Rf
theorem mul_str {s : LC} {k : Int} (h1 : 1 ≤ k) (h2 : k < 1000000) (h3 : s ≠ []) (h4 : s.length * k.toNat ≤ 1000000) (h : Hs) : opD .mul (.str s) (.int k) h = .ok (.str (List.replicate k.toNat s).flatten) h := by
  simp only [opD]
  rw [if_pos ⟨h1, h2, h3, h4⟩]
theorem rep_one (c : Char) : ∀ n : Nat, (List.replicate n [c]).flatten = List.replicate n c
  | 0 => rfl
  | n + 1 => by rw [List.replicate_succ, List.flatten_cons, rep_one c n, List.replicate_succ]; rfl
theorem rep_mem {s : LC} : ∀ {n : Nat} {c : Char}, c ∈ (List.replicate n s).flatten → c ∈ s := by
  intro n c hc
  obtain ⟨l, hl, hc⟩ := List.mem_flatten.mp hc
  rw [List.eq_of_mem_replicate hl] at hc
  exact hc
theorem rep_len (s : LC) (n : Nat) : (List.replicate n s).flatten.length = n * s.length := by simp
theorem nch_ok {c : Char} (h : NCH.contains c = true) : okc c = true := by unfold okc; rw [h]; rfl
theorem dig_nch {c : Char} (h : DIG.contains c = true) : NCH.contains c = true := List.contains_iff_mem.mpr (List.mem_cons_of_mem _ (List.mem_append_left (as := DIG) LET (List.contains_iff_mem.mp h)))
theorem Pc.g {p : Pc} (h : p.ok) : gT p.t := ⟨by obtain ⟨c, r, e, _⟩ := p.head h; rw [e]; simp, by have := (p.len h).1; omega, p.all h⟩
theorem dgs_val (n : Nat) : NumText.digitsVal ((dgs n).map Char.toNat) = n := by
  rw [dgs_numL]; exact TL.numL_val n
theorem dgs_len2 {n k : Nat} (hk : 0 < k) (h : n < 10 ^ k) : (dgs n).length ≤ k := by
  have := TL.numL_len hk h
  rw [← dgs_numL, List.length_map] at this
  exact this
variable {W : Wd} (hW : Has W) (hK : HasK W) (hE : HasE W) (L : Nat)
section
include hW
theorem str_nat (n : Nat) (hn : n < 10 ^ 15) (h : Hs) : bltC W .str [.int (n : Int)] h = .ok (.str (dgs n)) h := by
  show (if _ then R.ok (D.str (toString ((n : Nat) : Int)).toList) h else R.no) = _
  rw [if_pos, dgs_str]
  have : (n : Int).natAbs = n := Int.natAbs_natCast n
  rw [this]
  by_cases h0 : n = 0
  · subst h0; decide
  · have : n.log2 < 50 := (Nat.log2_lt h0).mpr (by omega)
    omega
theorem bad_draw (N p q : Nat) (hN : 4 ≤ N) (ns : List Int) (h : Hs) (P : PO p q ns h) : ∃ (b : LC) (h' : Hs), callF W L N 3 [.ob p] h = .ok (.str b) h' ∧ Bd b ∧ gT b ∧ PO p q ns h' ∧ Kp p h h' := by
  obtain ⟨M, rfl⟩ : ∃ M, N = M + 1 := ⟨N - 1, by omega⟩
  rw [callF_s (hW 3 _ (by decide) rfl) rfl]
  obtain ⟨c, h1, e1, a1, b1, P1, k1⟩ := takeN hW L M p q (by omega) ns 6 (by decide) (by decide) h P
  have pl1 := P1.lt
  by_cases c0 : c = 0
  · subst c0
    obtain ⟨v, h2, e2, a2, b2, P2, k2⟩ := takeN hW L M p q (by omega) ns 16 (by decide) (by decide) h1 P1
    obtain ⟨ch, hc, ec⟩ := ix_str hW (z := ['!', '"', '$', '&', '\'', '/', '>', '?', '@', '[', '\\', ']', '^', '_', '`', '|']) (cs := W.cons) (h := h2) a2 (by simpa using b2) (by decide)
    have hb : bcc ch = true := List.contains_iff_mem.mpr hc
    refine ⟨[ch], h2, ?_, .ch hb, ⟨by simp, by simp, fun x hx => ?_⟩, P2, k1.trans k2⟩
    · simp [q_set, q_put, q_expr, q_ret, q_retN, q_ife, q_cons, q_nil, q_cst, q_bin, q_neg, q_cmp, q_and, q_or, q_not, q_eife, q_tup, q_lst, q_dic, q_ix, q_slc, q_cal, q_blt, q_enil, q_econs, q_met, q_raise, q_gst, q_gni, q_glb, r_for, r_lc, r_var, r_ix_ob, r_sl_ob, r_put_ob, r_len_ob, r_tup_ob, r_lst_ob, r_addl, r_app, r_it_ob, r_in_ob, r_nin_ob, optI, Rf.start, f__law_bad, e1, e2, ec]
    · rw [List.mem_singleton] at hx; subst hx
      have : ['!', '"', '$', '&', '\'', '/', '>', '?', '@', '[', '\\', ']', '^', '_', '`', '|'].all okc = true := by decide +kernel
      exact List.all_eq_true.mp this _ hc
  by_cases c1 : c = 1
  · subst c1
    obtain ⟨v, h2, e2, a2, b2, P2, k2⟩ := takeN hW L M p q (by omega) ns 2 (by decide) (by decide) (h1 ++ [.lst [.str ['a'], .str ['Z', '9']]]) P1.app
    have l2 := k2.2 h1.length _ (by omega) lk_new
    obtain ⟨u, h3, e3, a3, b3, P3, k3⟩ := takeN hW L M p q (by omega) ns 8 (by decide) (by decide) h2 P2
    obtain ⟨x, hx, ex⟩ := atI_some (xs := [D.str ['a'], .str ['Z', '9']]) a2 (by simpa using b2)
    obtain ⟨w0, rfl, hw0⟩ : ∃ w : LC, x = .str w ∧ (w = ['a'] ∨ w = ['Z', '9']) := by
      simp only [List.mem_cons, List.not_mem_nil, or_false] at hx
      rcases hx with rfl | rfl
      · exact ⟨_, rfl, .inl rfl⟩
      · exact ⟨_, rfl, .inr rfl⟩
    obtain ⟨B, eB⟩ : ∃ B, B = (List.replicate (10 + u).toNat ['b', '_']).flatten := ⟨_, rfl⟩
    have mu := mul_str (s := ['b', '_']) (k := 10 + u) (by omega) (by omega) (by simp) (by simp; omega) h3
    rw [← eB] at mu
    have Bl : B.length = (10 + u).toNat * 2 := by rw [eB, rep_len]; rfl
    have Ba : ∀ x ∈ B, NCH.contains x = true := by
      intro x hx
      rw [eB] at hx
      have := rep_mem hx
      simp only [List.mem_cons, List.not_mem_nil, or_false] at this
      rcases this with rfl | rfl <;> decide
    have wa : ∀ x ∈ w0 ++ B, NCH.contains x = true := by
      intro x hx
      rcases List.mem_append.mp hx with hx | hx
      · rcases hw0 with rfl | rfl
        · simp only [List.mem_cons, List.not_mem_nil, or_false] at hx; subst hx; decide
        · simp only [List.mem_cons, List.not_mem_nil, or_false] at hx
          rcases hx with rfl | rfl <;> decide
      · exact Ba x hx
    have wl : 0 < w0.length ∧ w0.length ≤ 2 := by rcases hw0 with rfl | rfl <;> simp
    have ll : w0.length + B.length ≤ 16777216 := by omega
    refine ⟨w0 ++ B, h3, ?_, ?_, ⟨?_, by simp; omega, fun x hx => nch_ok (wa x hx)⟩, P3, k1.trans (Kp.app.trans (k2.trans k3))⟩
    · simp [q_set, q_put, q_expr, q_ret, q_retN, q_ife, q_cons, q_nil, q_cst, q_bin, q_neg, q_cmp, q_and, q_or, q_not, q_eife, q_tup, q_lst, q_dic, q_ix, q_slc, q_cal, q_blt, q_enil, q_econs, q_met, q_raise, q_gst, q_gni, q_glb, r_for, r_lc, r_var, r_ix_ob, r_sl_ob, r_put_ob, r_len_ob, r_tup_ob, r_lst_ob, r_addl, r_app, r_it_ob, r_in_ob, r_nin_ob, optI, Rf.start, f__law_bad, e1, e2, l2, ex, e3, mu, ll, sizeLine]
    · rcases hw0 with rfl | rfl
      · exact .long (c := 'a') (r := B) (by decide) wa (by simp; omega)
      · exact .long (c := 'Z') (r := '9' :: B) (by decide) wa (by simp; omega)
    · rcases hw0 with rfl | rfl <;> simp
  by_cases c2 : c = 2
  · subst c2
    obtain ⟨v, h2, e2, a2, b2, P2, k2⟩ := takeN hW L M p q (by omega) ns 1000000 (by decide) (by decide) h1 P1
    obtain ⟨u, h3, e3, a3, b3, P3, k3⟩ := takeN hW L M p q (by omega) ns 99999 (by decide) (by decide) h2 P2
    obtain ⟨v', rfl⟩ := Int.eq_ofNat_of_zero_le a2
    obtain ⟨u', rfl⟩ := Int.eq_ofNat_of_zero_le a3
    have vb : v' < 1000000 := by omega
    have ub : u' < 99999 := by omega
    have vu : v' * u' ≤ 1000000 * 99999 := Nat.mul_le_mul (by omega) (by omega)
    obtain ⟨n, en⟩ : ∃ n, n = 65536 + v' * u' := ⟨_, rfl⟩
    have nb : n < 10 ^ 12 := by omega
    have sn := str_nat hW n (by omega) h3
    have en2 : (65536 : Int) + (v' : Int) * (u' : Int) = (n : Int) := by rw [en, Int.natCast_add, Int.natCast_mul]; rfl
    have mc : (-(2 ^ 64) < (v' : Int) ∧ (v' : Int) < 2 ^ 64) ∨ (-(2 ^ 64) < (u' : Int) ∧ (u' : Int) < 2 ^ 64) := .inl ⟨by omega, by omega⟩
    have mm : opD .mul (.int (v' : Int)) (.int (u' : Int)) h3 = .ok (.int ((v' : Int) * (u' : Int))) h3 := by rw [r_mul, if_pos mc]
    have dl := dgs_len2 (n := n) (k := 12) (by omega) nb
    refine ⟨dgs n, h3, ?_, .num (dgs_ne n) dgs_dig (.inr (.inl (by rw [dgs_val]; omega))), ⟨dgs_ne n, by omega, fun x hx => nch_ok (dig_nch (dgs_dig x hx))⟩, P3, k1.trans (k2.trans k3)⟩
    have ee : evalE W (callF W L M) none (.blt .str [(.bin .add (.cst (.int 65536)) (.bin .mul (.cal 1 [(.var 0), (.cst (.int 1000000))]) (.cal 1 [(.var 0), (.cst (.int 99999))])))]) [some (.ob p), some (.int 2)] h1 = .ok (.str (dgs n)) h3 := by
      have m1 : evalE W (callF W L M) none (.cal 1 [(.var 0), (.cst (.int 1000000))]) [some (.ob p), some (.int 2)] h1 = .ok (.int (v' : Int)) h2 := by simp [q_set, q_put, q_expr, q_ret, q_retN, q_ife, q_cons, q_nil, q_cst, q_bin, q_neg, q_cmp, q_and, q_or, q_not, q_eife, q_tup, q_lst, q_dic, q_ix, q_slc, q_cal, q_blt, q_enil, q_econs, q_met, q_raise, q_gst, q_gni, q_glb, r_for, r_lc, r_var, r_ix_ob, r_sl_ob, r_put_ob, r_len_ob, r_tup_ob, r_lst_ob, r_addl, r_app, r_it_ob, r_in_ob, r_nin_ob, optI, Rf.start, e2]
      have m2 : evalE W (callF W L M) none (.cal 1 [(.var 0), (.cst (.int 99999))]) [some (.ob p), some (.int 2)] h2 = .ok (.int (u' : Int)) h3 := by simp [q_set, q_put, q_expr, q_ret, q_retN, q_ife, q_cons, q_nil, q_cst, q_bin, q_neg, q_cmp, q_and, q_or, q_not, q_eife, q_tup, q_lst, q_dic, q_ix, q_slc, q_cal, q_blt, q_enil, q_econs, q_met, q_raise, q_gst, q_gni, q_glb, r_for, r_lc, r_var, r_ix_ob, r_sl_ob, r_put_ob, r_len_ob, r_tup_ob, r_lst_ob, r_addl, r_app, r_it_ob, r_in_ob, r_nin_ob, optI, Rf.start, e3]
      rw [q_blt, q_econs, q_bin, q_cst, R.bind_ok, q_bin, m1, R.bind_ok, m2, R.bind_ok, mm, R.bind_ok, r_add, R.bind_ok, q_enil, R.bind_ok, R.bind_ok, en2, sn]
    generalize dgs n = z at ee ⊢
    have s1 : evalS W L (callF W L M) none (f__law_bad.body.getD 0 .pass) [some (.ob p), none] h = .ok (.nx [some (.ob p), some (.int 2)]) h1 := by simp [q_set, q_put, q_expr, q_ret, q_retN, q_ife, q_cons, q_nil, q_cst, q_bin, q_neg, q_cmp, q_and, q_or, q_not, q_eife, q_tup, q_lst, q_dic, q_ix, q_slc, q_cal, q_blt, q_enil, q_econs, q_met, q_raise, q_gst, q_gni, q_glb, r_for, r_lc, r_var, r_ix_ob, r_sl_ob, r_put_ob, r_len_ob, r_tup_ob, r_lst_ob, r_addl, r_app, r_it_ob, r_in_ob, r_nin_ob, optI, Rf.start, f__law_bad, e1]
    have s2 : evalS W L (callF W L M) none (f__law_bad.body.getD 1 .pass) [some (.ob p), some (.int 2)] h1 = .ok (.nx [some (.ob p), some (.int 2)]) h1 := by simp [q_set, q_put, q_expr, q_ret, q_retN, q_ife, q_cons, q_nil, q_cst, q_bin, q_neg, q_cmp, q_and, q_or, q_not, q_eife, q_tup, q_lst, q_dic, q_ix, q_slc, q_cal, q_blt, q_enil, q_econs, q_met, q_raise, q_gst, q_gni, q_glb, r_for, r_lc, r_var, r_ix_ob, r_sl_ob, r_put_ob, r_len_ob, r_tup_ob, r_lst_ob, r_addl, r_app, r_it_ob, r_in_ob, r_nin_ob, optI, Rf.start, f__law_bad]
    have s3 : evalS W L (callF W L M) none (f__law_bad.body.getD 2 .pass) [some (.ob p), some (.int 2)] h1 = .ok (.nx [some (.ob p), some (.int 2)]) h1 := by simp [q_set, q_put, q_expr, q_ret, q_retN, q_ife, q_cons, q_nil, q_cst, q_bin, q_neg, q_cmp, q_and, q_or, q_not, q_eife, q_tup, q_lst, q_dic, q_ix, q_slc, q_cal, q_blt, q_enil, q_econs, q_met, q_raise, q_gst, q_gni, q_glb, r_for, r_lc, r_var, r_ix_ob, r_sl_ob, r_put_ob, r_len_ob, r_tup_ob, r_lst_ob, r_addl, r_app, r_it_ob, r_in_ob, r_nin_ob, optI, Rf.start, f__law_bad]
    have s4 : evalS W L (callF W L M) none (f__law_bad.body.getD 3 .pass) [some (.ob p), some (.int 2)] h1 = .ok (.rt (.str z)) h3 := by
      show evalS W L (callF W L M) none (.ife (.cmp .eq (.var 1) (.cst (.int 2))) [.ret (.blt .str [(.bin .add (.cst (.int 65536)) (.bin .mul (.cal 1 [(.var 0), (.cst (.int 1000000))]) (.cal 1 [(.var 0), (.cst (.int 99999))])))])] []) _ _ = _
      have cc : evalE W (callF W L M) none (.cmp .eq (.var 1) (.cst (.int 2))) [some (.ob p), some (.int 2)] h1 = .ok (.bl true) h1 := by simp [q_set, q_put, q_expr, q_ret, q_retN, q_ife, q_cons, q_nil, q_cst, q_bin, q_neg, q_cmp, q_and, q_or, q_not, q_eife, q_tup, q_lst, q_dic, q_ix, q_slc, q_cal, q_blt, q_enil, q_econs, q_met, q_raise, q_gst, q_gni, q_glb, r_for, r_lc, r_var, r_ix_ob, r_sl_ob, r_put_ob, r_len_ob, r_tup_ob, r_lst_ob, r_addl, r_app, r_it_ob, r_in_ob, r_nin_ob, optI, Rf.start]
      rw [q_ife, cc, R.stm_ok, r_tbl, R.stm_ok, if_pos rfl, q_cons, q_ret, ee, R.stm_ok, RS.then_rt]
    have ebd : f__law_bad.body = f__law_bad.body.getD 0 .pass :: f__law_bad.body.getD 1 .pass :: f__law_bad.body.getD 2 .pass :: f__law_bad.body.getD 3 .pass :: f__law_bad.body.drop 4 := rfl
    rw [ebd, show Rf.start f__law_bad.ns [D.ob p] = [some (.ob p), none] from rfl, q_cons, s1, RS.then_nx, q_cons, s2, RS.then_nx, q_cons, s3, RS.then_nx, q_cons, s4, RS.then_rt]
    rfl
  by_cases c3 : c = 3
  · subst c3
    obtain ⟨v, h2, e2, a2, b2, P2, k2⟩ := takeN hW L M p q (by omega) ns 3 (by decide) (by decide) h1 P1
    obtain ⟨u, h3, e3, a3, b3, P3, k3⟩ := takeN hW L M p q (by omega) ns 999 (by decide) (by decide) h2 P2
    obtain ⟨n, rfl⟩ := Int.eq_ofNat_of_zero_le a3
    have sn := str_nat hW n (by omega) h3
    have mu := mul_str (s := ['0']) (k := 1 + v) (by omega) (by omega) (by simp) (by simp; omega) h2
    rw [rep_one] at mu
    obtain ⟨B, eB⟩ : ∃ B, B = List.replicate (1 + v).toNat '0' := ⟨_, rfl⟩
    rw [← eB] at mu
    have Bl : B.length = (1 + v).toNat := by rw [eB]; simp
    have Ba : ∀ x ∈ B, x = '0' := fun x hx => by rw [eB] at hx; exact List.eq_of_mem_replicate hx
    obtain ⟨r0, er⟩ : ∃ r0, B = '0' :: r0 := by
      cases q : B with
      | nil => rw [q] at Bl; simp at Bl; omega
      | cons x r =>
        have := Ba x (by rw [q]; simp)
        exact ⟨r, by rw [this]⟩
    have dl := dgs_len2 (n := n) (k := 3) (by omega) (by omega)
    have wd : ∀ x ∈ B ++ dgs n, DIG.contains x = true := by
      intro x hx
      rcases List.mem_append.mp hx with hx | hx
      · rw [Ba x hx]; decide
      · exact dgs_dig x hx
    have ll : B.length + (dgs n).length ≤ 16777216 := by omega
    refine ⟨B ++ dgs n, h3, ?_, .num (by rw [er]; simp) wd (.inr (.inr ⟨r0 ++ dgs n, by rw [er]; rfl, by have := dgs_ne n; simp [this]⟩)), ⟨by rw [er]; simp, by simp; omega, fun x hx => nch_ok (dig_nch (wd x hx))⟩, P3, k1.trans (k2.trans k3)⟩
    generalize dgs n = z at sn ll ⊢
    simp [q_set, q_put, q_expr, q_ret, q_retN, q_ife, q_cons, q_nil, q_cst, q_bin, q_neg, q_cmp, q_and, q_or, q_not, q_eife, q_tup, q_lst, q_dic, q_ix, q_slc, q_cal, q_blt, q_enil, q_econs, q_met, q_raise, q_gst, q_gni, q_glb, r_for, r_lc, r_var, r_ix_ob, r_sl_ob, r_put_ob, r_len_ob, r_tup_ob, r_lst_ob, r_addl, r_app, r_it_ob, r_in_ob, r_nin_ob, optI, Rf.start, f__law_bad, e1, e2, mu, e3, sn, ll, sizeLine]
  by_cases c4 : c = 4
  · subst c4
    obtain ⟨v, h2, e2, a2, b2, P2, k2⟩ := takeN hW L M p q (by omega) ns 70000 (by decide) (by decide) h1 P1
    obtain ⟨n, rfl⟩ := Int.eq_ofNat_of_zero_le a2
    have pl2 := P2.lt
    have sn := str_nat hW n (by omega) h2
    obtain ⟨u, h3, e3, a3, b3, P3, k3⟩ := takeN hW L M p q (by omega) ns 4 (by decide) (by decide) (h2 ++ [.lst [.str ['a'], .str ['_'], .str ['x', '9'], .str ['Z']]]) P2.app
    have l3 := k3.2 h2.length _ (by omega) lk_new
    obtain ⟨x, hx, ex⟩ := atI_some (xs := [D.str ['a'], .str ['_'], .str ['x', '9'], .str ['Z']]) a3 (by simpa using b3)
    obtain ⟨w, rfl, cw, rw', ew, hn, hd, hl, ha⟩ : ∃ w : LC, x = .str w ∧ ∃ c r, w = c :: r ∧ NCH.contains c = true ∧ DIG.contains c = false ∧ w.length ≤ 2 ∧ ∀ y ∈ w, NCH.contains y = true := by
      simp only [List.mem_cons, List.not_mem_nil, or_false] at hx
      rcases hx with rfl | rfl | rfl | rfl
      · exact ⟨_, rfl, _, _, rfl, by decide, by decide, by decide, by decide⟩
      · exact ⟨_, rfl, _, _, rfl, by decide, by decide, by decide, by decide⟩
      · exact ⟨_, rfl, _, _, rfl, by decide, by decide, by decide, by decide⟩
      · exact ⟨_, rfl, _, _, rfl, by decide, by decide, by decide, by decide⟩
    have dl := dgs_len2 (n := n) (k := 5) (by omega) (by omega)
    have ll : (dgs n).length + w.length ≤ 16777216 := by omega
    refine ⟨dgs n ++ w, h3, ?_, ?_, ⟨by have := dgs_ne n; simp [this], by simp; omega, fun x hx => ?_⟩, P3, k1.trans (k2.trans (Kp.app.trans k3))⟩
    · generalize dgs n = z at sn ll ⊢
      simp [q_set, q_put, q_expr, q_ret, q_retN, q_ife, q_cons, q_nil, q_cst, q_bin, q_neg, q_cmp, q_and, q_or, q_not, q_eife, q_tup, q_lst, q_dic, q_ix, q_slc, q_cal, q_blt, q_enil, q_econs, q_met, q_raise, q_gst, q_gni, q_glb, r_for, r_lc, r_var, r_ix_ob, r_sl_ob, r_put_ob, r_len_ob, r_tup_ob, r_lst_ob, r_addl, r_app, r_it_ob, r_in_ob, r_nin_ob, optI, Rf.start, f__law_bad, e1, e2, sn, e3, l3, ex, ll, sizeLine]
    · rw [ew]; exact .tail (dgs_ne n) dgs_dig hn hd
    · rcases List.mem_append.mp hx with hx | hx
      · exact nch_ok (dig_nch (dgs_dig x hx))
      · exact nch_ok (ha x hx)
  · have c5 : c = 5 := by omega
    subst c5
    obtain ⟨v, h2, e2, a2, b2, P2, k2⟩ := takeN hW L M p q (by omega) ns 3 (by decide) (by decide) (h1 ++ [.lst [.str ['1', '2', '3', '4', '5', '6', '7', '8', '9', '0', '1', '2', '3', '4', '5', '6', '7', '8', '9', '0', '1', '2', '3', '4', '5', '6', '7', '8', '9', '0'], .str ['0', '0'], .str ['9', '9', '9', '9', '9', '9', '9', '9']]]) P1.app
    have l2 := k2.2 h1.length _ (by omega) lk_new
    obtain ⟨x, hx, ex⟩ := atI_some (xs := [D.str ['1', '2', '3', '4', '5', '6', '7', '8', '9', '0', '1', '2', '3', '4', '5', '6', '7', '8', '9', '0', '1', '2', '3', '4', '5', '6', '7', '8', '9', '0'], .str ['0', '0'], .str ['9', '9', '9', '9', '9', '9', '9', '9']]) a2 (by simpa using b2)
    obtain ⟨w, rfl, hb, hg⟩ : ∃ w : LC, x = .str w ∧ Bd w ∧ gT w := by
      simp only [List.mem_cons, List.not_mem_nil, or_false] at hx
      rcases hx with rfl | rfl | rfl
      · exact ⟨_, rfl, .num (by decide) (by decide) (.inl (by decide)), by decide, by decide, by decide⟩
      · exact ⟨_, rfl, .num (by decide) (by decide) (.inr (.inr ⟨['0'], rfl, by decide⟩)), by decide, by decide, by decide⟩
      · exact ⟨_, rfl, .num (by decide) (by decide) (.inl (by decide)), by decide, by decide, by decide⟩
    refine ⟨w, h2, ?_, hb, hg, P2, k1.trans (Kp.app.trans k2)⟩
    simp [q_set, q_put, q_expr, q_ret, q_retN, q_ife, q_cons, q_nil, q_cst, q_bin, q_neg, q_cmp, q_and, q_or, q_not, q_eife, q_tup, q_lst, q_dic, q_ix, q_slc, q_cal, q_blt, q_enil, q_econs, q_met, q_raise, q_gst, q_gni, q_glb, r_for, r_lc, r_var, r_ix_ob, r_sl_ob, r_put_ob, r_len_ob, r_tup_ob, r_lst_ob, r_addl, r_app, r_it_ob, r_in_ob, r_nin_ob, optI, Rf.start, f__law_bad, e1, e2, l2, ex, sizeLine]
end
end K01
end

section
namespace K01
open PySem PySem.Spec PyProof.Rows L2 Rf
theorem bl_rep : ∀ n : Nat, BL (List.replicate n ' ')
  | 0 => .nil
  | n + 1 => by rw [List.replicate_succ]; exact .blk (by decide) (bl_rep n)
abbrev bodyP : List S := [.expr (.met (.var 4) "append" [(.ix (.lst [(.cal 8 [(.var 1)]), (.blt .str [(.cal 7 [(.var 1)])]), (.cst (.str ['=', '='])), (.cst (.str [';'])), (.cst (.str ['('])), (.cst (.str ['<']))]) (.cal 1 [(.var 1), (.cst (.int 6))]))])]
abbrev bodyQ : List S := [.expr (.met (.var 4) "append" [(.ix (.lst [(.cal 8 [(.var 1)]), (.cst (.str ['!'])), (.cst (.str ['0', '7']))]) (.cal 1 [(.var 1), (.cst (.int 3))]))])]
variable {W : Wd} (hW : Has W) (hK : HasK W) (hE : HasE W) (L : Nat)
section
include hW
theorem pool_ok (N : Nat) (hN : 1 ≤ N) (ns : List Int) (d : D) (h : Hs) (hl : bltC W .list [d] h = .ok (.ob h.length) (h ++ [.lst (ns.map D.int)])) :
    ∃ p q h', callF W L N 2 [d] h = .ok (.ob p) h' ∧ PO p q ns h' := by
  obtain ⟨M, rfl⟩ : ∃ M, N = M + 1 := ⟨N - 1, by omega⟩
  refine ⟨h.length + 1, h.length, h ++ [.lst (ns.map D.int)] ++ [.lst [.int 0, .ob h.length, .int (-1)]], ?_, ⟨by omega, 0, -1, by omega, ?_, lk_app lk_new⟩⟩
  · rw [callF_s (hW 2 _ (by decide) rfl) rfl]
    simp [q_set, q_put, q_expr, q_ret, q_retN, q_ife, q_cons, q_nil, q_cst, q_bin, q_neg, q_cmp, q_and, q_or, q_not, q_eife, q_tup, q_lst, q_dic, q_ix, q_slc, q_cal, q_blt, q_enil, q_econs, q_met, q_raise, q_gst, q_gni, q_glb, r_for, r_lc, r_var, r_ix_ob, r_sl_ob, r_put_ob, r_len_ob, r_tup_ob, r_lst_ob, r_addl, r_app, r_it_ob, r_in_ob, r_nin_ob, optI, Rf.start, f__law_pool, hl, sizeLine]
  · have := lk_new (h := h ++ [.lst (ns.map D.int)]) (o := .lst [.int 0, .ob h.length, .int (-1)])
    rw [List.length_append] at this
    exact this
theorem good_loop (M p q y : Nat) (hM : 4 ≤ M) (ns : List Int) (hy : y ≠ p) (hyq : y ≠ q) (s0 s2 s3 s6 s7 s8 : Option D) : ∀ (ds : List D) (good : List Pc) (s5 : Option D) (h : Hs), (∀ x ∈ good, x.ok) → good.length + ds.length ≤ 20 → PO p q ns h → h[y]? = some (.lst ((good.map Pc.t).map D.str)) →
    ∃ (good' : List Pc) (s5' : Option D) (h' : Hs), forI .none (fT W L (callF W L M) (.nm 5) bodyP) ds [s0, some (.ob p), s2, s3, some (.ob y), s5, s6, s7, s8] h = .ok (.nx [s0, some (.ob p), s2, s3, some (.ob y), s5', s6, s7, s8]) h' ∧ (∀ x ∈ good', x.ok) ∧ good'.length = good.length + ds.length ∧ PO p q ns h' ∧ h'[y]? = some (.lst ((good'.map Pc.t).map D.str)) := by
  intro ds
  induction ds with
  | nil => intro good s5 h hg hl P hyy; exact ⟨good, s5, h, forI_nil (by trivial), hg, by simp, P, hyy⟩
  | cons d ds ih =>
    intro good s5 h hg hl P hyy
    obtain ⟨w, h1, e1, n1, r1, P1, k1⟩ := name_draw hW L M p q (by omega) ns h P
    obtain ⟨n, h2, e2, n2, P2, k2⟩ := numb_ok hW L M p q (by omega) ns h1 P1
    have sn := str_nat hW n (by omega) h2
    have pl2 := P2.lt
    obtain ⟨v, h3, e3, a3, b3, P3, k3⟩ := takeN hW L M p q (by omega) ns 6 (by decide) (by decide) (h2 ++ [.lst [.str w, .str (dgs n), .str ['=', '='], .str [';'], .str ['('], .str ['<']]]) P2.app
    have l3 := k3.2 h2.length _ (by omega) lk_new
    obtain ⟨x, hx, ex⟩ := atI_some (xs := [D.str w, .str (dgs n), .str ['=', '='], .str [';'], .str ['('], .str ['<']]) a3 (by simpa using b3)
    obtain ⟨z, rfl, hz⟩ : ∃ z : Pc, x = .str z.t ∧ z.ok := by
      simp only [List.mem_cons, List.not_mem_nil, or_false] at hx
      rcases hx with rfl | rfl | rfl | rfl | rfl | rfl
      · exact ⟨.name w, rfl, n1, r1⟩
      · exact ⟨.num n, rfl, n2⟩
      · exact ⟨.sign ['=', '='], rfl, by simp [Pc.ok, SIG]⟩
      · exact ⟨.sign [';'], rfl, by simp [Pc.ok, SIG]⟩
      · exact ⟨.sign ['('], rfl, by simp [Pc.ok, SIG]⟩
      · exact ⟨.sign ['<'], rfl, by simp [Pc.ok, SIG]⟩
    have y3 := k3.2 y _ hy (lk_app (k2.2 y _ hy (k1.2 y _ hy hyy)))
    have yl := lk_lt y3
    have gl : good.length < 16777216 := by simp at hl; omega
    have gl2 : ((good.map Pc.t).map D.str).length < 16777216 := by simpa using gl
    obtain ⟨h4, eh4⟩ : ∃ h4, h4 = h3.set y (.lst (((good ++ [z]).map Pc.t).map D.str)) := ⟨_, rfl⟩
    have y4 : h4[y]? = some (.lst (((good ++ [z]).map Pc.t).map D.str)) := by rw [eh4]; simp [yl]
    have P4 : PO p q ns h4 := by rw [eh4]; exact P3.set hy hyq
    obtain ⟨good', s5', h', e9, r1', r2', r3', r4'⟩ := ih (good ++ [z]) (some d) h4 (by
      intro x hx
      rcases List.mem_append.mp hx with hx | hx
      · exact hg x hx
      · rw [List.mem_singleton] at hx; subst hx; exact hz) (by simp at hl ⊢; omega) P4 y4
    refine ⟨good', s5', h', ?_, r1', by simp at r2' ⊢; omega, r3', r4'⟩
    rw [forI_nx (h' := h4) (σ' := [s0, some (.ob p), s2, s3, some (.ob y), some d, s6, s7, s8]) (by trivial) ?_]
    · exact e9
    · rw [fT_some (σ1 := [s0, some (.ob p), s2, s3, some (.ob y), some d, s6, s7, s8]) rfl]
      have y0 := hyy
      have ap : ((good ++ [z]).map Pc.t).map D.str = (good.map Pc.t).map D.str ++ [D.str z.t] := by simp
      rw [eh4, ap]
      generalize (good.map Pc.t).map D.str = G at y0 y3 gl2 ⊢
      generalize dgs n = dn at sn l3 ex e3
      simp [q_set, q_put, q_expr, q_ret, q_retN, q_ife, q_cons, q_nil, q_cst, q_bin, q_neg, q_cmp, q_and, q_or, q_not, q_eife, q_tup, q_lst, q_dic, q_ix, q_slc, q_cal, q_blt, q_enil, q_econs, q_met, q_raise, q_gst, q_gni, q_glb, r_for, r_lc, r_var, r_ix_ob, r_sl_ob, r_put_ob, r_len_ob, r_tup_ob, r_lst_ob, r_addl, r_app, r_it_ob, r_in_ob, r_nin_ob, optI, Rf.start, r_metapp y0, e1, e2, sn, e3, l3, ex, y3, gl2, sizeLine]
theorem rest_loop (M p q y : Nat) (hM : 4 ≤ M) (ns : List Int) (hy : y ≠ p) (hyq : y ≠ q) (s0 s2 s3 s6 s7 s8 : Option D) (base : List LC) : ∀ (ds : List D) (r : List LC) (s5 : Option D) (h : Hs), (∀ x ∈ r, gT x) → base.length + r.length + ds.length ≤ 30 → PO p q ns h → h[y]? = some (.lst ((base ++ r).map D.str)) →
    ∃ (r' : List LC) (s5' : Option D) (h' : Hs), forI .none (fT W L (callF W L M) (.nm 5) bodyQ) ds [s0, some (.ob p), s2, s3, some (.ob y), s5, s6, s7, s8] h = .ok (.nx [s0, some (.ob p), s2, s3, some (.ob y), s5', s6, s7, s8]) h' ∧ (∀ x ∈ r', gT x) ∧ r'.length = r.length + ds.length ∧ PO p q ns h' ∧ h'[y]? = some (.lst ((base ++ r').map D.str)) := by
  intro ds
  induction ds with
  | nil => intro r s5 h hg hl P hyy; exact ⟨r, s5, h, forI_nil (by trivial), hg, by simp, P, hyy⟩
  | cons d ds ih =>
    intro r s5 h hg hl P hyy
    obtain ⟨w, h1, e1, n1, r1, P1, k1⟩ := name_draw hW L M p q (by omega) ns h P
    have pl1 := P1.lt
    obtain ⟨v, h3, e3, a3, b3, P3, k3⟩ := takeN hW L M p q (by omega) ns 3 (by decide) (by decide) (h1 ++ [.lst [.str w, .str ['!'], .str ['0', '7']]]) P1.app
    have l3 := k3.2 h1.length _ (by omega) lk_new
    obtain ⟨x, hx, ex⟩ := atI_some (xs := [D.str w, .str ['!'], .str ['0', '7']]) a3 (by simpa using b3)
    obtain ⟨z, rfl, hz⟩ : ∃ z : LC, x = .str z ∧ gT z := by
      simp only [List.mem_cons, List.not_mem_nil, or_false] at hx
      rcases hx with rfl | rfl | rfl
      · exact ⟨w, rfl, Pc.g (p := .name w) ⟨n1, r1⟩⟩
      · exact ⟨_, rfl, by decide, by decide, by decide⟩
      · exact ⟨_, rfl, by decide, by decide, by decide⟩
    have y3 := k3.2 y _ hy (lk_app (k1.2 y _ hy hyy))
    have yl := lk_lt y3
    have gl2 : ((base ++ r).map D.str).length < 16777216 := by simp at hl ⊢; omega
    obtain ⟨h4, eh4⟩ : ∃ h4, h4 = h3.set y (.lst ((base ++ (r ++ [z])).map D.str)) := ⟨_, rfl⟩
    have y4 : h4[y]? = some (.lst ((base ++ (r ++ [z])).map D.str)) := by rw [eh4]; simp [yl]
    have P4 : PO p q ns h4 := by rw [eh4]; exact P3.set hy hyq
    obtain ⟨r', s5', h', e9, r1', r2', r3', r4'⟩ := ih (r ++ [z]) (some d) h4 (by
      intro x hx
      rcases List.mem_append.mp hx with hx | hx
      · exact hg x hx
      · rw [List.mem_singleton] at hx; subst hx; exact hz) (by simp at hl ⊢; omega) P4 y4
    refine ⟨r', s5', h', ?_, r1', by simp at r2' ⊢; omega, r3', r4'⟩
    rw [forI_nx (h' := h4) (σ' := [s0, some (.ob p), s2, s3, some (.ob y), some d, s6, s7, s8]) (by trivial) ?_]
    · exact e9
    · rw [fT_some (σ1 := [s0, some (.ob p), s2, s3, some (.ob y), some d, s6, s7, s8]) rfl]
      have y0 := hyy
      have ap : (base ++ (r ++ [z])).map D.str = (base ++ r).map D.str ++ [D.str z] := by simp
      rw [eh4, ap]
      generalize (base ++ r).map D.str = G at y0 y3 gl2 ⊢
      simp [q_set, q_put, q_expr, q_ret, q_retN, q_ife, q_cons, q_nil, q_cst, q_bin, q_neg, q_cmp, q_and, q_or, q_not, q_eife, q_tup, q_lst, q_dic, q_ix, q_slc, q_cal, q_blt, q_enil, q_econs, q_met, q_raise, q_gst, q_gni, q_glb, r_for, r_lc, r_var, r_ix_ob, r_sl_ob, r_put_ob, r_len_ob, r_tup_ob, r_lst_ob, r_addl, r_app, r_it_ob, r_in_ob, r_nin_ob, optI, Rf.start, r_metapp y0, e1, e3, l3, ex, y3, gl2, sizeLine]
include hK hE
theorem law_run (hL : 20001 ≤ L) (N : Nat) (hN : 10 ≤ N) (ns : List Int) (d : D) (h : Hs) (hl : bltC W .list [d] h = .ok (.ob h.length) (h ++ [.lst (ns.map D.int)])) :
    ∃ h', callF W L N 19 [d] h = .ok (.bl true) h' := by
  obtain ⟨M, rfl⟩ : ∃ M, N = M + 1 := ⟨N - 1, by omega⟩
  rw [callF_s (hW 19 _ (by decide) rfl) rfl]
  obtain ⟨p, q, h1, e1, P1⟩ := pool_ok hW L M (by omega) ns d h hl
  obtain ⟨v, h2, e2, v0, v40, P2, k2⟩ := takeN hW L M p q (by omega) ns 40 (by decide) (by decide) h1 P1
  have es : Rf.start f_law.ns [d] = [some d, none, none, none, none, none, none, none, none] := rfl
  have eb : f_law.body = [.set 1 (.cal 2 [(.var 0)]),
    .ife (.cmp .eq (.cal 1 [(.var 1), (.cst (.int 40))]) (.cst (.int 0)))
      [.set 2 (.bin .add (.cst (.int 19999)) (.cal 1 [(.var 1), (.cst (.int 4))])),
      .set 3 (.tup [(.cst (.str ['f', 'i', 'n', 'e'])), (.cst (.int 0))]),
      .ife (.cmp .gt (.var 2) (.cst (.int 20000))) [.set 3 (.tup [(.cst (.str ['o', 'v', 'e', 'r', 's', 'i', 'z', 'e', 'd'])), (.cst (.str ['t', 'e', 'x', 't']))])] [],
      .ret (.cmp .eq (.cal 18 [(.bin .mul (.cst (.str [' '])) (.var 2))]) (.var 3))] [],
    .set 4 (.lst []), .for_ (.nm 5) .rng1 [(.cal 1 [(.var 1), (.cst (.int 13))])] bodyP, .set 6 (.blt .len [(.var 4)]),
    .expr (.met (.var 4) "append" [(.cal 3 [(.var 1)])]), .for_ (.nm 5) .rng1 [(.cal 1 [(.var 1), (.cst (.int 3))])] bodyQ,
    .set 7 (.cal 4 [(.var 1), (.var 4)]), .set 8 (.cal 18 [(.ix (.var 7) (.cst (.int 0)))]),
    .ret (.and (.cmp .eq (.var 8) (.tup [(.cst (.str ['m', 'a', 'l', 'f', 'o', 'r', 'm', 'e', 'd'])), (.ix (.ix (.var 7) (.cst (.int 1))) (.var 6))])) (.not (.blt .isBool [(.ix (.var 8) (.cst (.int 1)))])))] := rfl
  rw [es, eb]
  have s1 : evalS W L (callF W L M) none (.set 1 (.cal 2 [(.var 0)])) [some d, none, none, none, none, none, none, none, none] h = .ok (.nx [some d, some (.ob p), none, none, none, none, none, none, none]) h1 := by simp [q_set, q_put, q_expr, q_ret, q_retN, q_ife, q_cons, q_nil, q_cst, q_bin, q_neg, q_cmp, q_and, q_or, q_not, q_eife, q_tup, q_lst, q_dic, q_ix, q_slc, q_cal, q_blt, q_enil, q_econs, q_met, q_raise, q_gst, q_gni, q_glb, r_for, r_lc, r_var, r_ix_ob, r_sl_ob, r_put_ob, r_len_ob, r_tup_ob, r_lst_ob, r_addl, r_app, r_it_ob, r_in_ob, r_nin_ob, optI, Rf.start, e1]
  rw [q_cons, s1, RS.then_nx, q_cons, q_ife]
  by_cases hv : v = 0
  · -- spaces alone
    subst hv
    have c0 : evalE W (callF W L M) none (.cmp .eq (.cal 1 [(.var 1), (.cst (.int 40))]) (.cst (.int 0))) [some d, some (.ob p), none, none, none, none, none, none, none] h1 = .ok (.bl true) h2 := by simp [q_set, q_put, q_expr, q_ret, q_retN, q_ife, q_cons, q_nil, q_cst, q_bin, q_neg, q_cmp, q_and, q_or, q_not, q_eife, q_tup, q_lst, q_dic, q_ix, q_slc, q_cal, q_blt, q_enil, q_econs, q_met, q_raise, q_gst, q_gni, q_glb, r_for, r_lc, r_var, r_ix_ob, r_sl_ob, r_put_ob, r_len_ob, r_tup_ob, r_lst_ob, r_addl, r_app, r_it_ob, r_in_ob, r_nin_ob, optI, Rf.start, e2]
    obtain ⟨u, h3, e3, u0, u4, P3, k3⟩ := takeN hW L M p q (by omega) ns 4 (by decide) (by decide) h2 P2
    obtain ⟨sz, esz⟩ : ∃ sz : Nat, 19999 + u = (sz : Int) := ⟨(19999 + u).toNat, by omega⟩
    have mu := mul_str (s := [' ']) (k := (sz : Int)) (by omega) (by omega) (by simp) (by simp; omega) h3
    rw [rep_one, Int.toNat_natCast] at mu
    have szl : (List.replicate sz ' ').length = sz := by simp
    rw [c0, R.stm_ok, r_tbl, R.stm_ok, if_pos rfl]
    by_cases hb : 20000 < sz
    · have e4 := tokens_long hW hK hE L (M - 1) (by omega) (List.replicate sz ' ') h3 (by omega) (by omega)
      have e5 := told_big hW hE L M (by omega) (List.replicate sz ' ') h3 h3 e4
      have g1 : (20000 : Int) < (sz : Int) := by omega
      refine ⟨h3, ?_⟩
      have fe : ∀ h : Hs, cmpA W.cons .eq (.tup [.str ['o', 'v', 'e', 'r', 's', 'i', 'z', 'e', 'd'], .str ['t', 'e', 'x', 't']]) (.tup [.str ['o', 'v', 'e', 'r', 's', 'i', 'z', 'e', 'd'], .str ['t', 'e', 'x', 't']]) h = .ok (.bl true) h := fun h => r_eq (by decide) (by decide)
      generalize List.replicate sz ' ' = T at mu e5
      simp [q_set, q_put, q_expr, q_ret, q_retN, q_ife, q_cons, q_nil, q_cst, q_bin, q_neg, q_cmp, q_and, q_or, q_not, q_eife, q_tup, q_lst, q_dic, q_ix, q_slc, q_cal, q_blt, q_enil, q_econs, q_met, q_raise, q_gst, q_gni, q_glb, r_for, r_lc, r_var, r_ix_ob, r_sl_ob, r_put_ob, r_len_ob, r_tup_ob, r_lst_ob, r_addl, r_app, r_it_ob, r_in_ob, r_nin_ob, optI, Rf.start, e3, esz, g1, mu, e5, fe, sizeLine]
    · obtain ⟨h4, e4⟩ := tokens_blank hW hK hE L hL (M - 1) (by omega) (List.replicate sz ' ') (bl_rep sz) h3 (by omega)
      have e5 := told_fine hW L M (by omega) (List.replicate sz ' ') h3 h4 _ e4
      have g1 : ¬ (20000 : Int) < (sz : Int) := by omega
      refine ⟨h4, ?_⟩
      have fe : ∀ h : Hs, cmpA W.cons .eq (.tup [.str ['f', 'i', 'n', 'e'], .int 0]) (.tup [.str ['f', 'i', 'n', 'e'], .int 0]) h = .ok (.bl true) h := fun h => r_eq (by decide) (by decide)
      generalize List.replicate sz ' ' = T at mu e5
      simp [q_set, q_put, q_expr, q_ret, q_retN, q_ife, q_cons, q_nil, q_cst, q_bin, q_neg, q_cmp, q_and, q_or, q_not, q_eife, q_tup, q_lst, q_dic, q_ix, q_slc, q_cal, q_blt, q_enil, q_econs, q_met, q_raise, q_gst, q_gni, q_glb, r_for, r_lc, r_var, r_ix_ob, r_sl_ob, r_put_ob, r_len_ob, r_tup_ob, r_lst_ob, r_addl, r_app, r_it_ob, r_in_ob, r_nin_ob, optI, Rf.start, e3, esz, g1, mu, e5, fe, sizeLine]
  · have c0 : evalE W (callF W L M) none (.cmp .eq (.cal 1 [(.var 1), (.cst (.int 40))]) (.cst (.int 0))) [some d, some (.ob p), none, none, none, none, none, none, none] h1 = .ok (.bl false) h2 := by simp [q_set, q_put, q_expr, q_ret, q_retN, q_ife, q_cons, q_nil, q_cst, q_bin, q_neg, q_cmp, q_and, q_or, q_not, q_eife, q_tup, q_lst, q_dic, q_ix, q_slc, q_cal, q_blt, q_enil, q_econs, q_met, q_raise, q_gst, q_gni, q_glb, r_for, r_lc, r_var, r_ix_ob, r_sl_ob, r_put_ob, r_len_ob, r_tup_ob, r_lst_ob, r_addl, r_app, r_it_ob, r_in_ob, r_nin_ob, optI, Rf.start, e2, hv]
    rw [c0, R.stm_ok, r_tbl, R.stm_ok, if_neg (by decide), q_nil, RS.then_nx]
    have pl2 := P2.lt
    have yq : h2.length ≠ q := by
      obtain ⟨_, _, _, _, _, e⟩ := P2
      have := lk_lt e; omega
    obtain ⟨m, h3, e3, m0, m13, P3, k3⟩ := takeN hW L M p q (by omega) ns 13 (by decide) (by decide) (h2 ++ [.lst []]) P2.app
    have y3 := k3.2 h2.length _ (by omega) lk_new
    obtain ⟨good, s5, h4, e4, hg, gl, P4, y4⟩ := good_loop hW L M p q h2.length (by omega) ns (by omega) yq (some d) none none none none none ((List.range m.toNat).map fun (i : Nat) => D.int (i : Int)) [] none h3 (by simp) (by simp; omega) P3 (by simpa using y3)
    have gn : good.length ≤ 12 := by simp at gl; omega
    obtain ⟨b, h5, e5, hb, hbg, P5, k5⟩ := bad_draw hW L M p q (by omega) ns h4 P4
    have y5 := k5.2 h2.length _ (by omega) y4
    have yl5 := lk_lt y5
    obtain ⟨h6, eh6⟩ : ∃ h6, h6 = h5.set h2.length (.lst ((good.map Pc.t ++ [b]).map D.str)) := ⟨_, rfl⟩
    have y6 : h6[h2.length]? = some (.lst ((good.map Pc.t ++ [b]).map D.str)) := by rw [eh6]; simp [yl5]
    have P6 : PO p q ns h6 := by rw [eh6]; exact P5.set (by omega) yq
    obtain ⟨m2, h7, e7, m20, m23, P7, k7⟩ := takeN hW L M p q (by omega) ns 3 (by decide) (by decide) h6 P6
    have y7 := k7.2 h2.length _ (by omega) y6
    obtain ⟨r, s5', h8, e8, hr, rl, P8, y8⟩ := rest_loop hW L M p q h2.length (by omega) ns (by omega) yq (some d) none none (some (.int (good.length : Int))) none none (good.map Pc.t ++ [b]) ((List.range m2.toNat).map fun (i : Nat) => D.int (i : Int)) [] s5 h7 (by simp) (by simp; omega) P7 (by simpa using y7)
    have rn : r.length ≤ 2 := by simp at rl; omega
    have allg : ∀ x ∈ good.map Pc.t ++ [b] ++ r, gT x := by
      intro x hx
      rcases List.mem_append.mp hx with hx | hx
      · rcases List.mem_append.mp hx with hx | hx
        · obtain ⟨z, hz, rfl⟩ := List.mem_map.mp hx
          exact Pc.g (hg z hz)
        · rw [List.mem_singleton] at hx; subst hx; exact hbg
      · exact hr x hx
    obtain ⟨sp, gs, w, y, h9, e9, hsp, hq, hmap, w9, y9, P9, k9⟩ := text_ok hW L M p q h2.length (by omega) ns (good.map Pc.t ++ [b] ++ r) allg (by simp; omega) h8 P8 (by omega) y8
    have gsl : gs.length ≤ 15 := by
      have := congrArg List.length hmap
      simp at this; omega
    have tl := tx_len hW hq
    have spl := spc_len hsp
    obtain ⟨qs, tail, q1, q2, q3, q4, q5⟩ := conv good gs b r sp.length hg (by rw [hmap]; simp) hq
    have tot : (sp ++ (tx qs ++ (b ++ tail))).length ≤ 20000 := by rw [← q2]; simp; omega
    obtain ⟨h10, e10, k10⟩ := tokens_bad hW hK hE L hL (M - 1) (by omega) hsp hb q5 q3 (by omega) h9 tot
    have e11 := told_exc hW hE L M (by omega) _ h9 h10 _ e10
    rw [← q2] at e11
    have w10 := k10.2 _ _ w9
    have y10 := k10.2 _ _ y9
    obtain ⟨pos, epos⟩ : ∃ pos : Nat, pos = sp.length + (tx qs).length := ⟨_, rfl⟩
    rw [← epos] at e11 q4
    have ai : atI (plc sp.length gs) (good.length : Int) = some (.int (pos : Int)) := by
      obtain ⟨z1, z2⟩ := List.getElem?_eq_some_iff.mp q4
      rw [atI_nat z1, z2]
    refine ⟨h10, ?_⟩
    have t1 : evalS W L (callF W L M) none (.set 4 (.lst [])) [some d, some (.ob p), none, none, none, none, none, none, none] h2 = .ok (.nx [some d, some (.ob p), none, none, some (.ob h2.length), none, none, none, none]) (h2 ++ [.lst []]) := by simp [q_set, q_put, q_expr, q_ret, q_retN, q_ife, q_cons, q_nil, q_cst, q_bin, q_neg, q_cmp, q_and, q_or, q_not, q_eife, q_tup, q_lst, q_dic, q_ix, q_slc, q_cal, q_blt, q_enil, q_econs, q_met, q_raise, q_gst, q_gni, q_glb, r_for, r_lc, r_var, r_ix_ob, r_sl_ob, r_put_ob, r_len_ob, r_tup_ob, r_lst_ob, r_addl, r_app, r_it_ob, r_in_ob, r_nin_ob, optI, Rf.start, sizeLine]
    have t2 : evalS W L (callF W L M) none (.for_ (.nm 5) .rng1 [(.cal 1 [(.var 1), (.cst (.int 13))])] bodyP) [some d, some (.ob p), none, none, some (.ob h2.length), none, none, none, none] (h2 ++ [.lst []]) = .ok (.nx [some d, some (.ob p), none, none, some (.ob h2.length), s5, none, none, none]) h4 := by
      have it : evalEs W (callF W L M) none [(.cal 1 [(.var 1), (.cst (.int 13))])] [some d, some (.ob p), none, none, some (.ob h2.length), none, none, none, none] (h2 ++ [.lst []]) = .ok [.int m] h3 := by simp [q_set, q_put, q_expr, q_ret, q_retN, q_ife, q_cons, q_nil, q_cst, q_bin, q_neg, q_cmp, q_and, q_or, q_not, q_eife, q_tup, q_lst, q_dic, q_ix, q_slc, q_cal, q_blt, q_enil, q_econs, q_met, q_raise, q_gst, q_gni, q_glb, r_for, r_lc, r_var, r_ix_ob, r_sl_ob, r_put_ob, r_len_ob, r_tup_ob, r_lst_ob, r_addl, r_app, r_it_ob, r_in_ob, r_nin_ob, optI, Rf.start, e3]
      rw [r_for, it, R.stm_ok, rng_small m0 (by omega), ofO_some, R.stm_ok]
      dsimp only
      exact e4
    have t3 : evalS W L (callF W L M) none (.set 6 (.blt .len [(.var 4)])) [some d, some (.ob p), none, none, some (.ob h2.length), s5, none, none, none] h4 = .ok (.nx [some d, some (.ob p), none, none, some (.ob h2.length), s5, some (.int (good.length : Int)), none, none]) h4 := by
      simp [q_set, q_put, q_expr, q_ret, q_retN, q_ife, q_cons, q_nil, q_cst, q_bin, q_neg, q_cmp, q_and, q_or, q_not, q_eife, q_tup, q_lst, q_dic, q_ix, q_slc, q_cal, q_blt, q_enil, q_econs, q_met, q_raise, q_gst, q_gni, q_glb, r_for, r_lc, r_var, r_ix_ob, r_sl_ob, r_put_ob, r_len_ob, r_tup_ob, r_lst_ob, r_addl, r_app, r_it_ob, r_in_ob, r_nin_ob, optI, Rf.start, y4]
    have t4 : evalS W L (callF W L M) none (.expr (.met (.var 4) "append" [(.cal 3 [(.var 1)])])) [some d, some (.ob p), none, none, some (.ob h2.length), s5, some (.int (good.length : Int)), none, none] h4 = .ok (.nx [some d, some (.ob p), none, none, some (.ob h2.length), s5, some (.int (good.length : Int)), none, none]) h6 := by
      have gl2 : ((good.map Pc.t).map D.str).length < 16777216 := by simp; omega
      have ap : (good.map Pc.t ++ [b]).map D.str = (good.map Pc.t).map D.str ++ [D.str b] := by simp
      rw [eh6, ap]
      generalize (good.map Pc.t).map D.str = G at y4 y5 gl2 ⊢
      simp [q_set, q_put, q_expr, q_ret, q_retN, q_ife, q_cons, q_nil, q_cst, q_bin, q_neg, q_cmp, q_and, q_or, q_not, q_eife, q_tup, q_lst, q_dic, q_ix, q_slc, q_cal, q_blt, q_enil, q_econs, q_met, q_raise, q_gst, q_gni, q_glb, r_for, r_lc, r_var, r_ix_ob, r_sl_ob, r_put_ob, r_len_ob, r_tup_ob, r_lst_ob, r_addl, r_app, r_it_ob, r_in_ob, r_nin_ob, optI, Rf.start, r_metapp y4, e5, y5, gl2, sizeLine]
    have t5 : evalS W L (callF W L M) none (.for_ (.nm 5) .rng1 [(.cal 1 [(.var 1), (.cst (.int 3))])] bodyQ) [some d, some (.ob p), none, none, some (.ob h2.length), s5, some (.int (good.length : Int)), none, none] h6 = .ok (.nx [some d, some (.ob p), none, none, some (.ob h2.length), s5', some (.int (good.length : Int)), none, none]) h8 := by
      have it : evalEs W (callF W L M) none [(.cal 1 [(.var 1), (.cst (.int 3))])] [some d, some (.ob p), none, none, some (.ob h2.length), s5, some (.int (good.length : Int)), none, none] h6 = .ok [.int m2] h7 := by simp [q_set, q_put, q_expr, q_ret, q_retN, q_ife, q_cons, q_nil, q_cst, q_bin, q_neg, q_cmp, q_and, q_or, q_not, q_eife, q_tup, q_lst, q_dic, q_ix, q_slc, q_cal, q_blt, q_enil, q_econs, q_met, q_raise, q_gst, q_gni, q_glb, r_for, r_lc, r_var, r_ix_ob, r_sl_ob, r_put_ob, r_len_ob, r_tup_ob, r_lst_ob, r_addl, r_app, r_it_ob, r_in_ob, r_nin_ob, optI, Rf.start, e7]
      rw [r_for, it, R.stm_ok, rng_small m20 (by omega), ofO_some, R.stm_ok]
      dsimp only
      exact e8
    have t6 : evalS W L (callF W L M) none (.set 7 (.cal 4 [(.var 1), (.var 4)])) [some d, some (.ob p), none, none, some (.ob h2.length), s5', some (.int (good.length : Int)), none, none] h8 = .ok (.nx [some d, some (.ob p), none, none, some (.ob h2.length), s5', some (.int (good.length : Int)), some (.ob w), none]) h9 := by
      simp [q_set, q_put, q_expr, q_ret, q_retN, q_ife, q_cons, q_nil, q_cst, q_bin, q_neg, q_cmp, q_and, q_or, q_not, q_eife, q_tup, q_lst, q_dic, q_ix, q_slc, q_cal, q_blt, q_enil, q_econs, q_met, q_raise, q_gst, q_gni, q_glb, r_for, r_lc, r_var, r_ix_ob, r_sl_ob, r_put_ob, r_len_ob, r_tup_ob, r_lst_ob, r_addl, r_app, r_it_ob, r_in_ob, r_nin_ob, optI, Rf.start, e9]
    have t7 : evalS W L (callF W L M) none (.set 8 (.cal 18 [(.ix (.var 7) (.cst (.int 0)))])) [some d, some (.ob p), none, none, some (.ob h2.length), s5', some (.int (good.length : Int)), some (.ob w), none] h9 = .ok (.nx [some d, some (.ob p), none, none, some (.ob h2.length), s5', some (.int (good.length : Int)), some (.ob w), some (.tup [.str ['m', 'a', 'l', 'f', 'o', 'r', 'm', 'e', 'd'], .int (pos : Int)])]) h10 := by
      simp [q_set, q_put, q_expr, q_ret, q_retN, q_ife, q_cons, q_nil, q_cst, q_bin, q_neg, q_cmp, q_and, q_or, q_not, q_eife, q_tup, q_lst, q_dic, q_ix, q_slc, q_cal, q_blt, q_enil, q_econs, q_met, q_raise, q_gst, q_gni, q_glb, r_for, r_lc, r_var, r_ix_ob, r_sl_ob, r_put_ob, r_len_ob, r_tup_ob, r_lst_ob, r_addl, r_app, r_it_ob, r_in_ob, r_nin_ob, optI, Rf.start, w9, atI_0, e11]
    have fe : cmpA W.cons .eq (.tup [.str ['m', 'a', 'l', 'f', 'o', 'r', 'm', 'e', 'd'], .int (pos : Int)]) (.tup [.str ['m', 'a', 'l', 'f', 'o', 'r', 'm', 'e', 'd'], .int (pos : Int)]) h10 = .ok (.bl true) h10 := by
      rw [r_eq rfl rfl]
      simp [eqv, eqvs]
    have t8 : evalS W L (callF W L M) none (.ret (.and (.cmp .eq (.var 8) (.tup [(.cst (.str ['m', 'a', 'l', 'f', 'o', 'r', 'm', 'e', 'd'])), (.ix (.ix (.var 7) (.cst (.int 1))) (.var 6))])) (.not (.blt .isBool [(.ix (.var 8) (.cst (.int 1)))])))) [some d, some (.ob p), none, none, some (.ob h2.length), s5', some (.int (good.length : Int)), some (.ob w), some (.tup [.str ['m', 'a', 'l', 'f', 'o', 'r', 'm', 'e', 'd'], .int (pos : Int)])] h10 = .ok (.rt (.bl true)) h10 := by
      have ib : bltC W .isBool [.int (pos : Int)] h10 = .ok (.bl false) h10 := rfl
      simp [q_set, q_put, q_expr, q_ret, q_retN, q_ife, q_cons, q_nil, q_cst, q_bin, q_neg, q_cmp, q_and, q_or, q_not, q_eife, q_tup, q_lst, q_dic, q_ix, q_slc, q_cal, q_blt, q_enil, q_econs, q_met, q_raise, q_gst, q_gni, q_glb, r_for, r_lc, r_var, r_ix_ob, r_sl_ob, r_put_ob, r_len_ob, r_tup_ob, r_lst_ob, r_addl, r_app, r_it_ob, r_in_ob, r_nin_ob, optI, Rf.start, w10, atI_0, atI_1, y10, ai, fe, ib, sizeLine]
    rw [q_cons, t1, RS.then_nx, q_cons, t2, RS.then_nx, q_cons, t3, RS.then_nx, q_cons, t4, RS.then_nx, q_cons, t5, RS.then_nx, q_cons, t6, RS.then_nx, q_cons, t7, RS.then_nx, q_cons, t8, RS.then_rt]
    rfl
end
end K01
end

section
set_option maxHeartbeats 0
namespace K01
open PySem PySem.Spec PyProof.Rows L2 Rf
def fa : List He.Fa := pg.fa
abbrev RO : PySem.W.OpenRow := PySem.W.OpenLaw.row PySem.Challenge.rw_pourparler_k01_refused_texts
abbrev hk : PySem.W.Hook := He.hookX 5 fa defs [] [] pg.exB
def ob (s : PySem.W.SharedT) : He.AlX := He.obsX 5 fa defs [] [] pg.exB (HandSHeadRun.getT s)
theorem ob_eq (s : PySem.W.SharedT) : ob s = hk.obs s.abs := He.obsX_eq (HandSHeadRun.getT_eq s)
theorem run (w : World) : HandSHeadRun.RunEq RO (PySem.W.view RO.prog [iLaw]) hk ob 6000 loose w := by
  intro os
  kernel_rfl
abbrev depth : Nat := 40
abbrev fuel : Nat := 100000000
end K01
end

section
set_option maxHeartbeats 0
open PySem PySem.W PySem.Calls PyProof.Rows
theorem K01.holds (hrun : ∀ (ns : List Int) (d : Rf.D) (h : Rf.Hs), ns.length ≤ 63 → (d = .ob 0 ∧ h = [.scr ns]) ∨ (d = .con K01.nCon ∧ h = []) → ∃ h', Rf.callF (K01.pg.wd ns) K01.fuel K01.depth K01.nLaw [d] h = .ok (.bl true) h') : PySem.Challenge.rw_pourparler_k01_refused_texts.Holds := by
  w_on; o_law
  refine HandSHeadRun.head_any (r := OpenLaw.row PySem.Challenge.rw_pourparler_k01_refused_texts) (q := view (OpenLaw.row PySem.Challenge.rw_pourparler_k01_refused_texts).prog [K01.iLaw]) (H := K01.hk) (ob := K01.ob) (M := 6000) (loose := K01.loose) (d := HandSHeadRun.topDef (OpenLaw.row PySem.Challenge.rw_pourparler_k01_refused_texts).prog K01.iLaw) (kwd := []) K01.ob_eq
    (by kernel_rfl) (fun s => by kernel_rfl) K01.run (by kernel_rfl) (by kernel_rfl) (by kernel_rfl) (by rfl) (by first | assumption | decide +kernel) (by decide +kernel) ⟨rfl, rfl, rfl, rfl, rfl, by decide +kernel⟩ ?hw ?hc
  case hw => w_witness2
  case hc =>
    refine Rf.walk_G (l := PySem.Challenge.rw_pourparler_k01_refused_texts) (n := 63) (k := 2 * K01.depth + 1) (x := "script") (CX := L2.CX0) rfl (by decide) (by kernel_rfl) ⟨rfl, by decide, by decide⟩ ?F (fun _ _ _ _ z => z)
    intro w mg fa h Y G hmg0
    obtain ⟨K, KX, c⟩ := Y
    have hmg : mg ("law" : PySem.Str) = some (.ref fa) := by
      have e : (HandSHeadRun.topDef (OpenLaw.row PySem.Challenge.rw_pourparler_k01_refused_texts).prog K01.iLaw).name = ("law" : PySem.Str) := by kernel_rfl
      rw [← e]
      exact hmg0
    obtain ⟨fd, sp, hb, hs, hF⟩ := Rf.facts (p := K01.pg) (L := K01.fuel) (n := K01.depth) (f := K01.nLaw) (P := (PySem.Challenge.rw_pourparler_k01_refused_texts).prog) (w := w) K01.okp rfl rfl rfl K01.ok_law hrun KX G hmg c.t.d c.more
    exact ⟨K, fd, sp, KX, hb, hs, hF⟩
end

section
open PySem
theorem PySem.Challenge.cw_pourparler_k01_refused_texts_holds : PySem.Challenge.rw_pourparler_k01_refused_texts.Holds := by
  refine K01.holds fun ns d h _ q => ?_
  have hW : K01.Has (K01.pg.wd ns) := fun i fi _ e => e
  have hK : K01.HasK (K01.pg.wd ns) := rfl
  have hE : K01.HasE (K01.pg.wd ns) := ⟨rfl, rfl, rfl⟩
  rcases q with ⟨rfl, rfl⟩ | ⟨rfl, rfl⟩
  · exact K01.law_run hW hK hE K01.fuel (by decide) K01.depth (by decide) ns (.ob 0) [.scr ns] rfl
  · exact K01.law_run hW hK hE K01.fuel (by decide) K01.depth (by decide) ns (.con K01.nCon) [] rfl
end
