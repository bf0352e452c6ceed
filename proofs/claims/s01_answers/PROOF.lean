import PyProof.Rows.All
import Wide.All
import OpenK.AllK
import Wide.FinOn
import PyProof.EqAt
import PyProof.EqKinds
import PyProof.TupleCall
import KE.BitLaws
import KE.OsGo
import PyProof.AutoIntOps
import PyProof.FactsAll.int
import PyFlatLaws
import Open.SpecLaws
import KE.OsHead
import KE.SpHead
import KE.OsShapes
import PySem.Challenge.RW_judgedprograms_s01_answers
set_option Elab.async false
set_option linter.all false
set_option maxRecDepth 100000
set_option maxHeartbeats 0
set_option synthInstance.maxSize 100000
set_option synthInstance.maxHeartbeats 0
section
local macro_rules
  | `(command| #where) => do
    let n (s : String) (i : Nat) : Lean.Name := .str `My.head s!"{s}_{i}"
    let p (s : String) : Lean.Name := .str `PySem.Challenge (s ++ "_judgedprograms_s01_answers")
    let l := (List.range 1116).map (n "o") ++ [9, 82, 140, 167, 255, 307, 362, 410, 424, 449, 512, 599, 683, 734, 783, 827, 885, 951, 966, 1010, 1075, 1115].map (n "tree") ++ [11, 83, 141, 170, 256, 310, 365, 413, 427, 450, 513, 600, 684, 735, 784, 828, 886, 952, 967, 1011, 1076].map (n "sts") ++ [n "heap" 1, n "heap" 8, n "heap" 1116, n "env" 3, `My.loose1, `My.q1, p "pw", p "nm", p "rw", p "fa", p "fr"]
    return Lean.mkNullNode (← l.toArray.mapM fun c => `(command| theorem $(Lean.mkIdent (.str `PySem.W.Fast s!"tw{c.hash}")) : True := trivial))
#where
end
local macro_rules (kind := Lean.Parser.Command.declaration)
  | s => do
    let n := (← `(command| noncomputable def x := 0)).raw[0]
    let k := n.getArgs.findIdx (! ·.isNone)
    unless [``Lean.Parser.Command.definition, ``Lean.Parser.Command.abbrev, ``Lean.Parser.Command.instance].contains s[1].getKind && s[0][k].isNone do Lean.Macro.throwUnsupported
    return s.setArg 0 (s[0].setArg k n[k])
namespace L2
open PySem PySem.Spec PyProof.Rows
open PySem.W (Frag)
open Path (Insn bitsOf State_ numbers inBits Range_ beginsFrom askTold littleOf helpersIn Bytes)
abbrev Key:=Sum Int Str
def oK:Key→Value→Bool
 | .inl k,v=>Value.isInt k v
 | .inr x,v=>Value.isStrOf x v
def Fg (w:World):Key→Int
 | .inl k=>hashInt k
 | .inr x=>hashStr w x
theorem lF:∀{k:Key} {v:Value},oK k v=true→(∃i t,k=Sum.inl i∧v=Value.int i t)∨(∃x t,k=Sum.inr x∧v=Value.str x t)
 | .inl i,v,h=>by
  obtain⟨t,e⟩:=Value.isInt_shape (k:=i) (v:=v) h
  exact .inl ⟨i,t,rfl,e⟩
 | .inr x,v,h=>by
  obtain⟨t,e⟩:=Value.isStrOf_shape (x:=x) (v:=v) h
  exact .inr ⟨x,t,rfl,e⟩
theorem bU (i:Int) (t:Tok):oK (.inl i) (.int i t)=true:=by simp[oK,Value.isInt]
theorem oM (x:Str) (t:Tok):oK (.inr x) (.str x t)=true:=by simp[oK,Value.isStrOf]
theorem LH (a b:Int):decide ((Sum.inl a:Key)=Sum.inl b)=(a==b):=by
 by_cases e:a=b
 ·subst e;simp
 ·have h:¬(Sum.inl a:Key)=Sum.inl b:=fun q=>e (Sum.inl.inj q)
  rw[decide_eq_false h]
  exact(beq_eq_false_iff_ne.mpr e).symm
theorem LI (a b:Str):decide ((Sum.inr a:Key)=Sum.inr b)=decide (a=b):=by
 by_cases e:a=b
 ·subst e;simp
 ·have h:¬(Sum.inr a:Key)=Sum.inr b:=fun q=>e (Sum.inr.inj q)
  rw[decide_eq_false h,decide_eq_false e]
theorem LJ (a:Int) (b:Str):decide ((Sum.inl a:Key)=Sum.inr b)=false:=decide_eq_false (fun q=>nomatch q)
theorem LK (a:Str) (b:Int):decide ((Sum.inr a:Key)=Sum.inl b)=false:=decide_eq_false (fun q=>nomatch q)
def i6 (prog:Program) (w:World):PySem.KeyKind prog w Key where
 is:=oK
 hash:=Fg w
 inj:=fun v a b ha hb=>by
  rcases lF ha with⟨i,t,rfl,rfl⟩|⟨x,t,rfl,rfl⟩
  ·rcases lF hb with⟨j,u,rfl,e⟩|⟨y,u,rfl,e⟩
   ·injection e with e1 _;rw[e1]
   ·exact nomatch e
  ·rcases lF hb with⟨j,u,rfl,e⟩|⟨y,u,rfl,e⟩
   ·exact nomatch e
   ·injection e with e1 _;rw[e1]
 byValue:=fun k v h=>by
  rcases lF h with⟨i,t,rfl,rfl⟩|⟨x,t,rfl,rfl⟩<;>rfl
 pyHash:=fun hv h=>by
  rcases lF hv with⟨i,t,rfl,rfl⟩|⟨x,t,rfl,rfl⟩
  ·exact wpAny_pyHash_int h
  ·exact wpAny_pyHash_str h
 eqBool:=fun hu hv h=>by
  rcases lF hu with⟨i,t,rfl,rfl⟩|⟨x,t,rfl,rfl⟩
  ·rcases lF hv with⟨j,u,rfl,rfl⟩|⟨y,u,rfl,rfl⟩
   ·rw[LH]at h;exact wpAny_eqBool_int h
   ·rw[LJ]at h;exact SeqAt.EqAt.int_str i t y u _ _ _ _ h
  ·rcases lF hv with⟨j,u,rfl,rfl⟩|⟨y,u,rfl,rfl⟩
   ·rw[LK]at h;exact SeqAt.EqAt.str_int x t j u _ _ _ _ h
   ·rw[LI]at h;exact wpAny_eqBool_str h
 «strs» :=fun k x t v h=>by
  rcases lF h with⟨i,u,rfl,e⟩|⟨y,u,rfl,e⟩
  ·exact nomatch e
  ·injection e with e1 _
   subst e1
   cases v<;>rfl
theorem LL (prog:Program) (w:World) (i:Int) (t:Tok):(i6 prog w).is (.inl i) (.int i t)=true:=bU i t
theorem LM (prog:Program) (w:World) (x:Str) (t:Tok):(i6 prog w).is (.inr x) (.str x t)=true:=oM x t
inductive V where
 |aK|bl (b:Bool)|int (i:Int)|str (x:Str)|fP (b:Array UInt8)|vz (b:UInt64)|ref (a:Addr)|ty (n:String)
 deriving DecidableEq
def RelV:V→Value→Prop
 | .aK,u=>u=Value.none
 | .bl b,u=>u=Value.bool b
 | .int i,u=>∃t,u=Value.int i t
 | .str x,u=>∃t,u=Value.str x t
 | .fP b,u=>∃t,u=Value.bytes b t
 | .vz b,u=>∃t,u=Value.float b t
 | .ref a,u=>u=Value.ref a
 | .ty n,u=>u=Value.type n
abbrev Vals:List V→List Value→Prop:=Paired RelV
theorem Vals.length {xs:List V} {us:List Value} (r:Vals xs us):xs.length=us.length:=Paired.length r
theorem Vals.get:∀{xs:List V} {us:List Value} {i:Nat} {x:V},Vals xs us→xs[i]? =some x→∃u,us[i]? =some u∧RelV x u
 |_,_,_,_,.nil,e=>by simp at e
 |_,_,0,_,.cons r _,e=>by simp at e;subst e;exact⟨_,rfl,r⟩
 |_,_,i+1,x,.cons _ t,e=>by
  obtain⟨u,h1,h2⟩:=Vals.get (i:=i) (x:=x) t (by simpa using e)
  exact⟨u,by simpa using h1,h2⟩
theorem Vals.set {x:V} {u:Value} (r:RelV x u):∀{xs:List V} {us:List Value} (i:Nat),Vals xs us→Vals (xs.set i x) (us.set i u)
 |_,_,_,.nil=> .nil
 |_,_,0,.cons _ t=> .cons r t
 |_,_,i+1,.cons q t=> .cons q (Vals.set r i t)
theorem Vals.append:∀{xs ys:List V} {us ws:List Value},Vals xs us→Vals ys ws→Vals (xs++ys) (us++ws)
 |_,_,_,_,.nil,s=>s
 |_,_,_,_,.cons r t,s=> .cons r (Vals.append t s)
theorem Vals.take:∀{xs:List V} {us:List Value} (n:Nat),Vals xs us→Vals (xs.take n) (us.take n)
 |_,_,0,_=> .nil
 |_,_,_+1,.nil=> .nil
 |_,_,n+1,.cons r t=> .cons r (Vals.take n t)
theorem Vals.drop:∀{xs:List V} {us:List Value} (n:Nat),Vals xs us→Vals (xs.drop n) (us.drop n)
 |_,_,0,r=>r
 |_,_,_+1,.nil=> .nil
 |_,_,n+1,.cons _ t=>Vals.drop n t
def g8:Option V→Option Value→Prop
 |some v,some u=>RelV v u
 |none,none=>True
 |_,_=>False
def KV {κ:Type}:List (κ×V)→List (κ×Value)→Prop:=Paired fun(p:κ×V) (q:κ×Value)=>p.1=q.1∧RelV p.2 q.2
def kV:Key→V
 | .inl i=> .int i
 | .inr x=> .str x
inductive HO where
 |lst (xs:List V)
 |tup (xs:List V)
 |dK (kvs:List (Key×V))|dT (kvs:List (List Key×V))
 |set (S:Int→Bool) (n:Nat)
 |ins (C dx:Addr) (fs:List (Str×V))
 |own (x:Addr)
 |xd (fs:List (Str×V))
 |met (f x:Addr)
 |oN (lo hi:Int)
 |fC (o:Obj) (u:HO)
 |oO (ps:Array Value)
 |ext (φ:Heap→Prop)
abbrev Hp:=Addr→Option HO
def upd (H:Hp) (a:Addr) (o:HO):Hp:=fun b=>if b=a then some o else H b
theorem aH {H:Hp} {a:Addr} {o:HO}:upd H a o a=some o:=by unfold upd;rw[if_pos rfl]
theorem aL {H:Hp} {a b:Addr} {o:HO} (h:b≠a):upd H a o b=H b:=by unfold upd;rw[if_neg h]
theorem dj {H:Hp} {a:Addr} {o u:HO}:upd (upd H a o) a u=upd H a u:=by
 funext b;unfold upd;split<;>rfl
theorem bF {H:Hp} {a b:Addr} {o u:HO} (h:H a=some o) (h':H b=some u) (d:o≠u):a≠b:=by
 intro e;subst e;rw[h]at h';exact d (Option.some.inj h')
theorem aY {H:Hp} {a b:Addr} {o:HO} (h:H a=some o) (h':H b=none):a≠b:=by
 intro e;subst e;rw[h]at h';cases h'
section
variable (P:Program) (w:World)
def fQ (H:Hp) (h:Heap) (a:Addr):HO→Prop
 | .lst xs=>xs.length≤sizeLine∧∃(its:List Value) (n:Nat),Vals xs its∧h.get? a=some {cls:= .type "list",data:= .seq its.toArray n}
 | .tup xs=>xs.length≤sizeLine∧∃its:List Value,Vals xs its∧IsTup h a its.toArray
 | .dK kvs=>kvs.length≤sizeLine∧(a==sysModules)=false∧∃vs,KV kvs vs∧h.DictOf (i6 P w) a vs
 | .dT kvs=>kvs.length≤sizeLine∧(a==sysModules)=false∧∃xs:List (List Key×Addr×Value),
   Paired (fun(p:List Key×V) (q:List Key×Addr×Value)=>p.1=q.1∧H q.2.1=some (.tup (p.1.map kV))∧RelV p.2 q.2.2) kvs xs∧
   ∃o es ep,h.get? a=some o∧o.ExactDict∧o.data= .dict es ep∧es.toList=xs.map (entryOfKey (tupleKind (i6 P w)))∧(xs.map (·.1)).Nodup
 | .set S n=>h.SetOf (intKind P w) a S n
 | .ins C dx fs=>H dx=some (.own a)∧fs.length≤1000∧dx≠a∧h.get? a=some (W.instObj C dx)∧
   ∃mA,h.Ns1 dx mA∧(∀f,g8 (fs.lookup f) (mA f))∧PySem.Within mA (fs.map (·.1))
 | .own _=>∃o,h.get? a=some o
 | .xd fs=>∃mA,h.Ns1 a mA∧∀f,g8 (fs.lookup f) (mA f)
 | .oN lo hi=>∃t u v,h.get? a=some {cls:= .type "range",data:= .fields #[.int lo t,.int hi u,.int 1 v]}
 | .fC o u=>h.get? a=some o∧fQ H h a u
 | .oO ps=>h.get? a=some {cls:= .none,data:= .fields ps}
 | .met f x=>h.get? a=some (W.methodObj (.ref f) (.ref x))
 | .ext φ=>φ h∧(∃o,h.get? a=some o)∧∀h1 h2:Heap,φ h1→(∀o,h1.get? a=some o→h2.get? a=some o)→φ h2
def cX (H:Hp) (h:Heap):Prop:=∀a o,H a=some o→fQ P w H h a o
end
section
variable {P:Program} {w:World} {H H':Hp} {h h':Heap} {a:Addr} {o:HO}
theorem fQ.lt (x:fQ P w H h a o):a<h.objs.size:=by
 cases o with
 |lst xs=>obtain⟨_,_,_,_,e⟩:=x;exact Heap.lt_size e
 |tup xs=>obtain⟨_,_,_,p⟩:=x;exact p.lt
 |dK kvs=>obtain⟨_,_,_,_,o,_,_,e,_⟩:=x;exact Heap.lt_size e
 |dT kvs=>obtain⟨_,_,_,_,o,_,_,e,_⟩:=x;exact Heap.lt_size e
 |set S n=>obtain⟨o,_,_,_,e,_⟩:=x;exact Heap.lt_size e
 |ins C dx fs=>obtain⟨_,_,_,e,_⟩:=x;exact Heap.lt_size e
 |own y=>obtain⟨_,e⟩:=x;exact Heap.lt_size e
 |xd fs=>obtain⟨_,⟨_,_,_,e,_⟩,_⟩:=x;exact Heap.lt_size e
 |oN lo hi=>obtain⟨_,_,_,e⟩:=x;exact Heap.lt_size e
 |fC ob u=>obtain⟨e,_⟩:=x;exact Heap.lt_size e
 |oO ps=>exact Heap.lt_size (show h.get? a=some _ from x)
 |met f y=>exact Heap.lt_size (show h.get? a=some _ from x)
 |ext φ=>obtain⟨_,⟨_,e⟩,_⟩:=x;exact Heap.lt_size e
theorem Paired.ck {α β:Type} {F G:α→β→Prop}:∀{l₁:List α} {l₂:List β},Paired F l₁ l₂→(∀a b,F a b→G a b)→Paired G l₁ l₂
 |_,_,.nil,_=> .nil
 |_,_,.cons r t,f=> .cons (f _ _ r) (Paired.ck t f)
theorem fQ.stay (x:fQ P w H h a o) (k:∀b u,(b=a∨H b=some (.own a))→h.get? b=some u→h'.get? b=some u)
  (ho:∀b,H b=some (.own a)→H' b=some (.own a)) (ht:∀b xs,H b=some (.tup xs)→H' b=some (.tup xs)):fQ P w H' h' a o:=by
 induction o with
 |lst xs=>obtain⟨z,its,n,r,e⟩:=x;exact⟨z,its,n,r,k _ _ (.inl rfl) e⟩
 |tup xs=>obtain⟨z,its,r,ob,e,c⟩:=x;exact⟨z,its,r,ob,k _ _ (.inl rfl) e,c⟩
 |dK kvs=>obtain⟨z,y,vs,r,ob,es,ep,e,c⟩:=x;exact⟨z,y,vs,r,ob,es,ep,k _ _ (.inl rfl) e,c⟩
 |dT kvs=>
  obtain⟨z,y,xs,r,ob,es,ep,e,c⟩:=x
  exact⟨z,y,xs,Paired.ck r fun p q z=>⟨z.1,ht _ _ z.2.1,z.2.2⟩,ob,es,ep,k _ _ (.inl rfl) e,c⟩
 |set S n=>obtain⟨ob,es,ep,t,e,c⟩:=x;exact⟨ob,es,ep,t,k _ _ (.inl rfl) e,c⟩
 |ins C dx fs=>
  obtain⟨d,z,ne,e,mA,⟨od,es,ep,e2,c⟩,r⟩:=x
  exact⟨ho _ d,z,ne,k _ _ (.inl rfl) e,mA,⟨od,es,ep,k _ _ (.inr d) e2,c⟩,r⟩
 |own y=>obtain⟨ob,e⟩:=x;exact⟨ob,k _ _ (.inl rfl) e⟩
 |xd fs=>obtain⟨mA,⟨od,es,ep,e,c⟩,r⟩:=x;exact⟨mA,⟨od,es,ep,k _ _ (.inl rfl) e,c⟩,r⟩
 |oN lo hi=>obtain⟨t,u,v,e⟩:=x;exact⟨t,u,v,k _ _ (.inl rfl) e⟩
 |fC ob u ih=>obtain⟨e,q⟩:=x;exact⟨k _ _ (.inl rfl) e,ih q⟩
 |oO ps=>
  have e:h.get? a=some {cls:= .none,data:= .fields ps}:=x
  show h'.get? a=some {cls:= .none,data:= .fields ps}
  exact k a _ (.inl rfl) e
 |met f y=>
  have e:h.get? a=some (W.methodObj (.ref f) (.ref y)):=x
  show h'.get? a=some (W.methodObj (.ref f) (.ref y))
  exact k a _ (.inl rfl) e
 |ext φ=>obtain⟨p,⟨o,e⟩,st⟩:=x;exact⟨st _ _ p fun o q=>k _ _ (.inl rfl) q,⟨o,k _ _ (.inl rfl) e⟩,st⟩
theorem cX.lt (x:cX P w H h) (e:H a=some o):a<h.objs.size:=(x a o e).lt
theorem cX.fresh (x:cX P w H h) (e:h.objs.size≤a):H a=none:=by
 cases q:H a with
 |none=>rfl
 |some u=>exact absurd (Nat.lt_of_lt_of_le (x.lt q) e) (Nat.lt_irrefl _)
theorem cX.kept (x:cX P w H h) (k:∀b u,h.get? b=some u→h'.get? b=some u):cX P w H h':=fun a o e=>
 (x a o e).stay (fun b u _ q=>k b u q) (fun _ q=>q) fun _ _ q=>q
theorem cX.laid (x:cX P w H h) (k:∀b u,h.get? b=some u→h'.get? b=some u) (hp:h.objs.size≤a) (new:fQ P w (upd H a o) h' a o):cX P w (upd H a o) h':=fun b u e=>by
 have hn:=x.fresh hp
 by_cases hb:b=a
 ·subst hb;rw[aH]at e;cases e;exact new
 ·rw[aL hb]at e
  exact(x b u e).stay (fun c v _ q=>k c v q) (fun c q=>by rw[aL (aY q hn)];exact q) fun c xs q=>by rw[aL (aY q hn)];exact q
end
def Rd (H:Hp) (a:Addr) (u:HO):Prop:=H a=some u∨∃o,H a=some (.fC o u)
theorem Rd.ok {P:Program} {w:World} {H:Hp} {h:Heap} {a:Addr} {u:HO} (r:Rd H a u) (x:cX P w H h):fQ P w H h a u:=by
 rcases r with r|⟨o,r⟩
 ·exact x a u r
 ·obtain⟨_,q⟩:=x a _ r
  exact q
def vA:Option HO→Prop
 |some (.lst _)=>True
 |some (.dK _)=>True
 |some (.dT _)=>True
 |some (.set _ _)=>True
 |some (.ins _ _ _)=>True
 |some (.ext _)=>True
 |_=>False
section
variable {P:Program} {w:World} {H:Hp} {h h':Heap} {x e:Addr} {o':HO}
theorem cX.write (ok:cX P w H h) (mu:vA (H x)) (he:e=x∨H e=some (.own x)) (k:∀b u,b≠e→h.get? b=some u→h'.get? b=some u) (qv:∃u,h'.get? e=some u)
  (new:fQ P w (upd H x o') h' x o'):cX P w (upd H x o') h':=fun b u q=>by
 have Fi:∀c y,H c=some (.own y)→c≠x:=fun c y r z=>by subst z;rw[r]at mu;exact mu
 have LN:∀c xs,H c=some (.tup xs)→c≠x:=fun c xs r z=>by subst z;rw[r]at mu;exact mu
 by_cases hb:b=x
 ·subst hb;rw[aH]at q;cases q;exact new
 ·rw[aL hb]at q
  by_cases oQ:b=e
  ·have q':H b=some (.own x):=by
    rcases he with z|z
    ·exact absurd (oQ.trans z) hb
    ·rw[oQ];exact z
   rw[q]at q';cases q'
   obtain⟨v,hv⟩:=qv
   exact⟨v,by rw[oQ];exact hv⟩
  ·refine(ok b u q).stay (fun c v hc r=>k c v ?_ r) (fun c r=>by rw[aL (Fi c b r)];exact r) fun c xs r=>by rw[aL (LN c xs r)];exact r
   rcases hc with rfl|hc
   ·exact oQ
   ·rintro rfl
    rcases he with z|z
    ·exact Fi c b hc z
    ·rw[hc]at z;cases z;exact hb rfl
end
structure Un (fs ex:List Addr) (H H':Hp) (h h':Heap):Prop where
 keep:∀b o,h.get? b=some o→H b=none→b ∉ fs→b ∉ ex→h'.get? b=some o
 slot:∀b o,h.get? b=some o→H b=none→b∈fs→b ∉ ex→∃sl,h'.get? b=some {o with slots:=sl}
 free:∀b o,h.get? b=some o→H b=none→b ∉ ex→H' b=none
 there:∀b o,h.get? b=some o→b ∉ ex→∃o',h'.get? b=some o'
 tups:∀b xs,H b=some (.tup xs)→H' b=some (.tup xs)
 lG:∀b o u,H b=some (.fC o u)→H' b=some (.fC o u)
 nh:∀b ps,H b=some (.oO ps)→∃more,H' b=some (.oO (ps++more))
section
variable {fs fs' ex ex':List Addr} {H H1 H2:Hp} {h h1 h2 h':Heap} {a x e:Addr} {o:HO}
theorem Un.any (u:Un fs ex H H1 h h1) {b:Addr} {ob:Obj} (q:h.get? b=some ob) (n:H b=none) (hx:b ∉ ex):∃sl,h1.get? b=some {ob with slots:=sl}:=by
 by_cases hb:b∈fs
 ·exact u.slot b ob q n hb hx
 ·exact⟨ob.slots,u.keep b ob q n hb hx⟩
theorem Un.kept (k:∀b u,h.get? b=some u→h'.get? b=some u):Un fs ex H H h h':=
 ⟨fun b ob q _ _ _=>k b ob q,fun b ob q _ _ _=>⟨ob.slots,k b ob q⟩,fun _ _ _ n _=>n,fun b ob q _=>⟨ob,k b ob q⟩,fun _ _ q=>q,fun _ _ _ q=>q,fun _ ps q=>⟨#[],by rw[q];simp⟩⟩
theorem Un.refl:Un fs ex H H h h:=Un.kept fun _ _ q=>q
theorem Un.laid (k:∀b u,h.get? b=some u→h'.get? b=some u) (hp:h.objs.size≤a) (hn:H a=none):Un fs ex H (upd H a o) h h' where
 keep:=fun b u q _ _ _=>k b u q
 slot:=fun b u q _ _ _=>⟨u.slots,k b u q⟩
 free:=fun b u q n _=>by rw[aL (Nat.ne_of_lt (Nat.lt_of_lt_of_le (Heap.lt_size q) hp))];exact n
 there:=fun b u q _=>⟨u,k b u q⟩
 tups:=fun b xs q=>by rw[aL (aY q hn)];exact q
 lG:=fun b u xs q=>by rw[aL (aY q hn)];exact q
 nh:=fun b ps q=>⟨#[],by rw[aL (aY q hn),q];simp⟩
theorem Un.write (mu:vA (H x)) (he:e=x∨H e=some (.own x)) (k:∀b u,b≠e→h.get? b=some u→h'.get? b=some u) (qv:∃u,h'.get? e=some u):Un fs ex H (upd H x o) h h':=by
 have hx:∀b,H b=none→b≠x:=fun b n z=>by subst z;rw[n]at mu;exact mu
 have hb:∀b,H b=none→b≠e:=fun b n z=>by
  subst z
  rcases he with r|r
  ·exact hx b n r
  ·rw[n]at r;cases r
 have hm:∀b u,H b=some u→¬vA (some u)→b≠x:=fun b u q nm z=>by subst z;rw[q]at mu;exact nm mu
 refine⟨fun b u q n _ _=>k b u (hb b n) q,fun b u q n _ _=>⟨u.slots,k b u (hb b n) q⟩,fun b u q n _=>by rw[aL (hx b n)];exact n,fun b u q _=>?_,
  fun b xs q=>by rw[aL (hm b _ q fun z=>z)];exact q,fun b u xs q=>by rw[aL (hm b _ q fun z=>z)];exact q,fun b ps q=>⟨#[],by rw[aL (hm b _ q fun z=>z),q];simp⟩⟩
 by_cases oQ:b=e
 ·subst oQ;exact qv
 ·exact⟨u,k b u oQ q⟩
end
def vB (h:Heap) (H:Hp):List Addr:=(List.range h.objs.size).filter fun a=>(H a).isSome
def lH (h:Heap) (H:Hp):Heap:=W.hideAll h (vB h H)
theorem LP (h:Heap) (H:Hp):(lH h H).objs.size=h.objs.size:=W.hideAll_size _ _
theorem LQ {h:Heap} {H:Hp} {b:Addr} {o:Obj} (e:h.get? b=some o) (n:H b=none):(lH h H).get? b=some o:=
 W.hideAll_get _ e fun hm=>by
  have q:(H b).isSome=true:=(List.mem_filter.mp hm).2
  rw[n]at q;simp at q
theorem LR {h:Heap} {H:Hp} {b:Addr} {o:Obj} (e:(lH h H).get? b=some o):h.get? b=some o∧H b=none:=by
 have e':h.get? b=some o:=W.of_hideAll (vB h H) e
 refine⟨e',?_⟩
 cases q:H b with
 |none=>rfl
 |some x=>
  have hm:b∈vB h H:=List.mem_filter.mpr ⟨List.mem_range.mpr (Heap.lt_size e'),by simp[q]⟩
  have z:(lH h H).get? b=none:=W.hideAll_none (vB h H) hm
  rw[z]at e;cases e
def LS (g h:Heap) (L:Addr):List (Addr×Obj):=(List.range h.objs.size).filterMap fun a=>if a=L∨(g.get? a).isSome=true then none else(h.get? a).map fun o=>(a,o)
def rest (g h:Heap) (L d:Addr):List (Addr×Obj):=(LS g h L).filter fun p=>decide (p.1≠d)
structure Mod (K:W.Frag) (mg:Str→Option Value) (base:Heap):Prop where
 qy:K.In base
 glob:base.Ns mainGlobals mg
 blt:∃mb,base.Ns builtinsNs mb∧∀x:Str,x≠"__name__"→mb x=bootBuiltins x
 nolimit:base.NoLimit
structure Cx where
 prog:Program
 w:World
 K:W.Frag
 mg:Str→Option Value
 base:Heap
 A:Around
 N:List Str
 eY:Shared
 sA:Hp
 env:Env
 outer:List Env
 stack:List Env
 ex:List Addr
 fn:Str→Bool
 calm:Bool
 pn:List (Addr×Obj)
 xe:Value→Shared→Prop
def frs (l:List Env):List Addr:=l.filterMap (·.frame)
abbrev Cx.fs (X:Cx):List Addr:=frs X.outer
def qA (sc:Scope) (x:Str):Prop:=sc.names.lookup x=some .local∨sc.names.lookup x=some .cell∨sc.names.lookup x=some .free
def Loc (sc:Scope) (x:Str):Prop:=sc.names.lookup x=some .local∨sc.names.lookup x=some .cell
def Look (env:Env) (h:Heap) (m:Str→Option Value) (x:Str) (u:Value):Prop:=
 (env.kindOf x=some .local∧m x=some u)∨((env.kindOf x=some .cell∨env.kindOf x=some .free)∧∃c,env.cells.lookup x=some c∧h.IsCell c (some u))
structure Cx.Ok (X:Cx):Prop where
 mod:Mod X.K X.mg X.base
 kind:X.env.scope.kind= .function
 glob:X.env.globals=mainGlobals
 blt:X.env.builtins=builtinsNs
 above:X.eY.heap.objs.size≤X.env.locals
 inj:∀x y c,X.env.cells.lookup x=some c→X.env.cells.lookup y=some c→x=y
 has:∀x,(X.env.kindOf x=some .cell∨X.env.kindOf x=some .free)→∃c,X.env.cells.lookup x=some c
 sC:∀x c,X.fn x=true→X.env.cells.lookup x=some c→X.eY.heap.objs.size≤c
 hd:X.calm=true→X.A.handled=none
 frames:X.A.frames=some X.stack
 stk:X.stack=X.outer∨(X.stack=X.env::X.outer∧X.env.frame=some X.env.locals)
 vC:∀b∈X.ex,b≠X.env.locals∧∀x c,X.env.cells.lookup x=some c→c≠b
 bs:∀b o,X.base.get? b=some o→X.eY.heap.get? b=some o∧X.sA b=none
 kI:X.base.objs.size≤X.eY.heap.objs.size
 sD:∀b o,X.base.get? b=some o→b ∉ X.ex
 sE:∀b∈X.ex,b ∉ X.fs
 i7:X.eY.heap.FunFrames X.base X.outer
 oR:∀b∈X.fs,X.sA b=none
structure Inv (X:Cx) (pins:List (Addr×Obj)) (σ:List (Option V)) (H:Hp) (s:Shared):Prop where
 ok:X.Ok
 os:s.os=X.eY.os
 bare:AllBare s.gens
 base:Un X.fs X.ex X.sA H X.eY.heap s.heap
 loc:∃m,s.heap.Ns X.env.locals m∧∀(i:Nat) (x:Str) (v:V),X.N[i]? =some x→σ[i]? =some (some v)→qA X.env.scope x→∃u,RelV v u∧Look X.env s.heap m x u
 cell:∀x c,X.env.cells.lookup x=some c→∃v,s.heap.IsCell c v
 free:H X.env.locals=none
 jF:∀x c,X.env.cells.lookup x=some c→H c=none
 pin:∀p∈X.pn++pins,s.heap.get? p.1=some p.2∧H p.1=none∧p.1≠X.env.locals∧p.1 ∉ X.fs∧∀v,p.2.data≠ .cell v
 hok:cX X.prog X.w H s.heap
 len:σ.length=X.N.length
section
variable {X:Cx} {pins:List (Addr×Obj)} {σ:List (Option V)} {H H':Hp} {s:Shared} {h':Heap}
theorem Cx.Ok.LU (ok:X.Ok) {b:Addr} {o:Obj} (e:X.base.get? b=some o):b ∉ X.fs:=fun hb=>by
 have:=(ok.i7.mem hb).1
 rw[e]at this;cases this
theorem Inv.bs (I:Inv X pins σ H s):∀b o,X.base.get? b=some o→s.heap.get? b=some o∧H b=none:=fun b o e=>
 ⟨I.base.keep b o (I.ok.bs b o e).1 (I.ok.bs b o e).2 (I.ok.LU e) (I.ok.sD b o e),I.base.free b o (I.ok.bs b o e).1 (I.ok.bs b o e).2 (I.ok.sD b o e)⟩
theorem Inv.bk (I:Inv X pins σ H s):∀b o,X.base.get? b=some o→s.heap.get? b=some o:=fun b o e=>(I.bs b o e).1
theorem Inv.mod (I:Inv X pins σ H s):Mod X.K X.mg X.base:=I.ok.mod
theorem Inv.fD (I:Inv X pins σ H s):X.K.In s.heap:=I.ok.mod.qy.keeps I.bk
theorem Inv.fr (I:Inv X pins σ H s):∃m,Fr X.base X.env.locals s.heap m:=
 let ⟨m,hn,_⟩:=I.loc
 ⟨m,hn,I.bk,Nat.le_trans I.ok.kI I.ok.above⟩
theorem Inv.lt (I:Inv X pins σ H s):X.env.locals<s.heap.objs.size:=let ⟨_,hn,_⟩:=I.loc;hn.lt
theorem Inv.sz (I:Inv X pins σ H s):X.eY.heap.objs.size≤s.heap.objs.size:=Nat.le_trans I.ok.above (Nat.le_of_lt I.lt)
theorem Inv.LV (I:Inv X pins σ H s) {a:Addr} (h:s.heap.objs.size≤a):a ∉ X.fs:=fun hb=>by
 obtain⟨_,o,ho,_⟩:=I.ok.i7.mem hb
 exact absurd (Nat.lt_of_lt_of_le (Heap.lt_size ho) (Nat.le_trans I.sz h)) (Nat.lt_irrefl _)
theorem Inv.oS (I:Inv X pins σ H s):∀x c,X.env.cells.lookup x=some c→c≠X.env.locals:=fun x c e z=>by
 obtain⟨v,o,ho,hd⟩:=I.cell x c e
 obtain⟨m,⟨o',es,ep,ho',hd',_⟩,_⟩:=I.loc
 rw[z,ho']at ho;cases ho;rw[hd']at hd;cases hd
theorem Inv.i7 (I:Inv X pins σ H s):s.heap.FunFrames X.base X.outer:=by
 have all:∀(l:List Env),(∀b∈frs l,b∈X.fs)→X.eY.heap.FunFrames X.base l→s.heap.FunFrames X.base l:=by
  intro l
  induction l with
  |nil=>intro _ _;trivial
  |cons env r ih=>
   intro hs hl
   obtain⟨hk,⟨L,o,hf,hn,ho,hd⟩,hr⟩:=hl
   have hL:L∈X.fs:=hs L (by unfold frs;rw[List.filterMap_cons,hf];exact List.mem_cons_self)
   obtain⟨sl,e⟩:=I.base.slot L o ho (I.ok.oR L hL) hL fun z=>I.ok.sE L z hL
   exact⟨hk,⟨L,_,hf,hn,e,hd⟩,ih (fun b hb=>hs b (by unfold frs;rw[List.filterMap_cons,hf];exact List.mem_cons_of_mem _ hb)) hr⟩
 exact all X.outer (fun _ hb=>hb) I.ok.i7
theorem Inv.stack (I:Inv X pins σ H s):s.heap.FunFrames X.base X.stack:=by
 rcases I.ok.stk with e|⟨e,hf⟩
 ·rw[e];exact I.i7
 ·rw[e]
  obtain⟨m,hn,_⟩:=I.loc
  refine .cons (by rw[I.ok.kind];decide) hf hn ?_ I.i7
  exact Heap.get?_none_of_le (Nat.le_trans I.ok.kI I.ok.above)
theorem Inv.BP (I:Inv X pins σ H s):∀b∈frs X.stack,b∈X.env.locals::X.fs:=fun b hb=>by
 rcases I.ok.stk with e|⟨e,hf⟩
 ·rw[e]at hb;exact List.mem_cons_of_mem _ hb
 ·rw[e]at hb
  unfold frs at hb
  rw[List.filterMap_cons,hf]at hb
  exact hb
theorem Inv.Fj (I:Inv X pins σ H s):∀b∈frs X.stack,H b=none:=fun b hb=>by
 rcases List.mem_cons.mp (I.BP b hb)with e|hb
 ·rw[e];exact I.free
 ·obtain⟨_,o,ho,_⟩:=I.ok.i7.mem hb
  exact I.base.free b o ho (I.ok.oR b hb) fun z=>I.ok.sE b z hb
theorem Inv.step {g':Array GenState} {t':Nat} {d':Drawn} {ch:List Addr} (I:Inv X pins σ H s)
  (hch:∀b∈ch,(b∈X.ex∨X.eY.heap.objs.size≤b)∧b≠X.env.locals∧(∀x c,X.env.cells.lookup x=some c→c≠b)∧∀p∈X.pn++pins,p.1≠b)
  (keep:∀b o,b≠X.env.locals→b ∉ X.fs→b ∉ ch→s.heap.get? b=some o→H b=none→h'.get? b=some o)
  (slot:∀b o,b≠X.env.locals→b∈X.fs→b ∉ ch→s.heap.get? b=some o→H b=none→∃sl,h'.get? b=some {o with slots:=sl}) (free:∀b o,b ∉ ch→s.heap.get? b=some o→H b=none→H' b=none)
  (there:∀b o,b ∉ ch→s.heap.get? b=some o→∃o',h'.get? b=some o')
  (tups:∀b xs,H b=some (.tup xs)→H' b=some (.tup xs)) (lG:∀b o u,H b=some (.fC o u)→H' b=some (.fC o u)) (nh:∀b ps,H b=some (.oO ps)→∃more,H' b=some (.oO (ps++more)))
  (ns:∀m,s.heap.Ns X.env.locals m→h'.Ns X.env.locals m) (hok:cX X.prog X.w H' h') (hg:AllBare g'):
  Inv X pins σ H' {s with heap:=h',gens:=g',drawn:=d',toks:=t'}:=by
 have Fl:∀b o,X.eY.heap.get? b=some o→b≠X.env.locals:=fun b o e=>Nat.ne_of_lt (Nat.lt_of_lt_of_le (Heap.lt_size e) I.ok.above)
 have vD:∀b o,X.eY.heap.get? b=some o→b ∉ X.ex→b ∉ ch:=fun b o e hx hb=>by
  rcases(hch b hb).1 with z|z
  ·exact hx z
  ·exact absurd (Nat.lt_of_lt_of_le (Heap.lt_size e) z) (Nat.lt_irrefl _)
 have cellK:∀x c,X.env.cells.lookup x=some c→∀v,s.heap.IsCell c v→h'.IsCell c v:=fun x c e v ⟨o,ho,hd⟩=>by
  have sF:c ∉ ch:=fun z=>(hch c z).2.2.1 x c e rfl
  by_cases hc:c∈X.fs
  ·obtain⟨sl,q⟩:=slot c o (I.oS x c e) hc sF ho (I.jF x c e)
   exact⟨_,q,hd⟩
  ·exact⟨o,keep c o (I.oS x c e) hc sF ho (I.jF x c e),hd⟩
 refine⟨I.ok,I.os,hg,⟨fun b o e n hb hx=>?_,fun b o e n hb hx=>?_,fun b o e n hx=>?_,fun b o e hx=>?_,fun b xs e=>tups b xs (I.base.tups b xs e),fun b o xs e=>lG b o xs (I.base.lG b o xs e),fun b ps e=>?_⟩,?_,fun x c e=>?_,?_,fun x c e=>?_,fun p hp=>?_,hok,I.len⟩
 ·exact keep b o (Fl b o e) hb (vD b o e hx) (I.base.keep b o e n hb hx) (I.base.free b o e n hx)
 ·obtain⟨sl,e1⟩:=I.base.slot b o e n hb hx
  obtain⟨LW,e2⟩:=slot b _ (Fl b o e) hb (vD b o e hx) e1 (I.base.free b o e n hx)
  exact⟨LW,e2⟩
 ·obtain⟨o',e1⟩:=I.base.there b o e hx
  exact free b o' (vD b o e hx) e1 (I.base.free b o e n hx)
 ·obtain⟨o',e1⟩:=I.base.there b o e hx
  exact there b o' (vD b o e hx) e1
 ·obtain⟨m1,e1⟩:=I.base.nh b ps e
  obtain⟨m2,e2⟩:=nh b _ e1
  exact⟨m1++m2,by rw[e2,Array.append_assoc]⟩
 ·obtain⟨m,hn,hl⟩:=I.loc
  refine⟨m,ns m hn,fun i x v e1 e2 e3=>?_⟩
  obtain⟨u,r,l⟩:=hl i x v e1 e2 e3
  refine⟨u,r,?_⟩
  rcases l with l|⟨k,c,e,z⟩
  ·exact .inl l
  ·exact .inr ⟨k,c,e,cellK x c e _ z⟩
 ·obtain⟨v,z⟩:=I.cell x c e
  exact⟨v,cellK x c e v z⟩
 ·obtain⟨m,⟨o,_,_,ho,_⟩,_⟩:=I.loc
  exact free _ o (fun z=>(hch _ z).2.1 rfl) ho I.free
 ·obtain⟨v,o,ho,hd⟩:=I.cell x c e
  exact free c o (fun z=>(hch c z).2.2.1 x c e rfl) ho (I.jF x c e)
 ·obtain⟨e,n,ne,nf,d⟩:=I.pin p hp
  have sF:p.1 ∉ ch:=fun z=>(hch p.1 z).2.2.2 p hp rfl
  exact⟨keep p.1 p.2 ne nf sF e n,free p.1 p.2 sF e n,ne,nf,d⟩
theorem Inv.un {t':Nat} (I:Inv X pins σ H s) (u:Un X.fs [] H H' s.heap h') (hok:cX X.prog X.w H' h'):Inv X pins σ H' {s with heap:=h',toks:=t'}:=by
 obtain⟨m,⟨o,es,ep,ho,r⟩,_⟩:=id I.loc
 obtain⟨sl,hL⟩:=u.any ho I.free (by simp)
 exact I.step (g':=s.gens) (d':=s.drawn) (ch:=[]) (fun _ z=>nomatch z) (fun b o _ hb _ e n=>u.keep b o e n hb (by simp)) (fun b o _ hb _ e n=>u.slot b o e n hb (by simp)) (fun b o _ e n=>u.free b o e n (by simp)) (fun b o _ e=>u.there b o e (by simp)) u.tups u.lG u.nh (fun m' hm=>by
  obtain⟨o',es',BQ,ho',r'⟩:=hm
  rw[ho]at ho';cases ho'
  exact⟨_,es',BQ,hL,r'⟩) hok I.bare
theorem Inv.call {g':Array GenState} {t':Nat} {d':Drawn} {ch:List Addr} (I:Inv X pins σ H s) (u:Un (frs X.stack) ch H H' s.heap h') (hok:cX X.prog X.w H' h') (hg:AllBare g')
  (hch:∀b∈ch,(b∈X.ex∨X.eY.heap.objs.size≤b)∧b≠X.env.locals∧(∀x c,X.env.cells.lookup x=some c→c≠b)∧∀p∈X.pn++pins,p.1≠b):
  Inv X pins σ H' {s with heap:=h',gens:=g',drawn:=d',toks:=t'}:=by
 obtain⟨m,⟨o,es,ep,ho,r⟩,_⟩:=id I.loc
 obtain⟨sl,hL⟩:=u.any ho I.free fun z=>(hch _ z).2.1 rfl
 exact I.step (ch:=ch) hch (fun b o hL hb hc e n=>u.keep b o e n (fun z=>(List.mem_cons.mp (I.BP b z)).elim hL hb) hc) (fun b o _ _ hc e n=>u.any e n hc) (fun b o hc e n=>u.free b o e n hc) (fun b o hc e=>u.there b o e hc) u.tups u.lG u.nh (fun m' hm=>by
  obtain⟨o',es',BQ,ho',r'⟩:=hm
  rw[ho]at ho';cases ho'
  exact⟨_,es',BQ,hL,r'⟩) hok hg
theorem Inv.turned {t':Nat} {it:Addr} (I:Inv X pins σ H s) (k:∀b o,b≠it→s.heap.get? b=some o→h'.get? b=some o) (hn:H it=none) (hL:it≠X.env.locals)
  (h1:it∈X.ex∨X.eY.heap.objs.size≤it) (h2:∀x c,X.env.cells.lookup x=some c→c≠it) (h3:∀p∈X.pn++pins,p.1≠it):Inv X pins σ H {s with heap:=h',toks:=t'}:=by
 have ni:∀b u,H b=some u→b≠it:=fun b u e z=>by rw[z,hn]at e;cases e
 refine I.step (g':=s.gens) (d':=s.drawn) (ch:=[it]) (fun b hb=>?_) (fun b o _ _ hc e _=>k b o (fun z=>hc (by simp[z])) e) (fun b o _ _ hc e _=>⟨o.slots,k b o (fun z=>hc (by simp[z])) e⟩) (fun _ _ _ _ n=>n)
  (fun b o hc e=>⟨o,k b o (fun z=>hc (by simp[z])) e⟩) (fun _ _ e=>e) (fun _ _ _ e=>e) (fun b ps e=>⟨#[],by rw[e];simp⟩) (fun m hm=>?_) (fun b u e=>?_) I.bare
 ·have e:b=it:=by simpa using hb
  subst e
  exact⟨h1,hL,h2,h3⟩
 ·obtain⟨o,es,ep,ho,r⟩:=hm
  exact⟨o,es,ep,k _ o (Ne.symm hL) ho,r⟩
 ·refine(I.hok b u e).stay (fun c v hc q=>k c v ?_ q) (fun _ q=>q) fun _ _ q=>q
  rcases hc with z|z
  ·rw[z];exact ni b u e
  ·exact ni c _ z
theorem Inv.tok (I:Inv X pins σ H s) (t:Nat):Inv X pins σ H {s with toks:=t}:=I.un (h':=s.heap) (t':=t) Un.refl I.hok
theorem Inv.kept {t':Nat} (I:Inv X pins σ H s) (k:∀b u,s.heap.get? b=some u→h'.get? b=some u):Inv X pins σ H {s with heap:=h',toks:=t'}:=I.un (Un.kept k) (I.hok.kept k)
theorem Inv.laid {a:Addr} {o:HO} {t':Nat} (I:Inv X pins σ H s) (k:∀b u,s.heap.get? b=some u→h'.get? b=some u) (hp:s.heap.objs.size≤a) (new:fQ X.prog X.w (upd H a o) h' a o):
  Inv X pins σ (upd H a o) {s with heap:=h',toks:=t'}:=I.un (Un.laid k hp (I.hok.fresh hp)) (I.hok.laid k hp new)
theorem Inv.write {x e:Addr} {o:HO} {t':Nat} (I:Inv X pins σ H s) (mu:vA (H x)) (he:e=x∨H e=some (.own x)) (k:∀b u,b≠e→s.heap.get? b=some u→h'.get? b=some u) (qv:∃u,h'.get? e=some u)
  (new:fQ X.prog X.w (upd H x o) h' x o):Inv X pins σ (upd H x o) {s with heap:=h',toks:=t'}:=I.un (Un.write mu he k qv) (I.hok.write mu he k qv new)
theorem Inv.weak {σ':List (Option V)} (I:Inv X pins σ H s) (hl:σ'.length=σ.length) (w:∀(i:Nat) v,σ'[i]? =some (some v)→σ[i]? =some (some v)):Inv X pins σ' H s:=
 ⟨I.ok,I.os,I.bare,I.base,let ⟨m,hn,hl'⟩:=I.loc;⟨m,hn,fun i x v e1 e2 e3=>hl' i x v e1 (w i v e2) e3⟩,I.cell,I.free,I.jF,I.pin,I.hok,hl.trans I.len⟩
theorem Inv.Fo {Fp:List (Addr×Obj)} (I:Inv X pins σ H s) (h:∀p∈Fp,s.heap.get? p.1=some p.2∧H p.1=none∧p.1≠X.env.locals∧p.1 ∉ X.fs∧∀v,p.2.data≠ .cell v):Inv X Fp σ H s:=
 ⟨I.ok,I.os,I.bare,I.base,I.loc,I.cell,I.free,I.jF,fun p hp=>(List.mem_append.mp hp).elim (fun z=>I.pin p (List.mem_append_left _ z)) (h p),I.hok,I.len⟩
theorem BR {N:List Str} (hN:N.Nodup) {i j:Nat} {x:Str} (a:N[i]? =some x) (b:N[j]? =some x):i=j:=by
 obtain⟨h1,e1⟩:=List.getElem?_eq_some_iff.mp a
 obtain⟨h2,e2⟩:=List.getElem?_eq_some_iff.mp b
 exact(List.getElem_inj hN).mp (e1.trans e2.symm)
theorem LX {M:Model} {A:Around} {E:Value→Shared→Prop} {i:Nat} {x:Str} {v:V} {u:Value} {Q:Unit→Shared→Prop} (I:Inv X pins σ H s) (hN:X.N.Nodup) (hi:X.N[i]? =some x) (hx:Loc X.env.scope x) (r:RelV v u)
  (h:∀s',Inv X pins (σ.set i (some v)) H s'→(∃a,Heap.SameBut a s.heap s'.heap∧(a=X.env.locals∨X.env.cells.lookup x=some a))→Q () s') (hf:X.fn x=true∨X.env.scope.names.lookup x=some .local:=by first|exact .inl rfl|exact .inr rfl|assumption):wpAny M A (storeName X.env x u) Q E s:=by
 obtain⟨m,hn,hl⟩:=id I.loc
 have hcls:(X.env.scope.kind== .class||(X.env.scope.kind== .module&&X.env.locals != X.env.globals))=false:=by rw[I.ok.kind];rfl
 have hiσ:i<σ.length:=by rw[I.len];exact(List.getElem?_eq_some_iff.mp hi).1
 have oS:=I.oS
 have tracked:∀{a:Addr} {h':Heap},(∃o,s.heap.get? a=some o∧H a=none)→Heap.SameBut a s.heap h'→cX X.prog X.w H h':=fun{a h'} ha hs b ob e=>by
  obtain⟨_,_,hfree⟩:=ha
  refine(I.hok b ob e).stay (fun c w' hc q=>(hs.2 c ?_).trans q) (fun _ q=>q) fun _ _ q=>q
  rintro rfl
  rcases hc with rfl|hc
  ·rw[hfree]at e;cases e
  ·rw[hfree]at hc;cases hc
 rcases hx with hk|hk
 ·refine wpAny_storeName_local hk hn (fun h' hn' hs=>?_) hcls
  obtain⟨oL,_,_,LY,_⟩:=id hn
  refine h _ ⟨I.ok,I.os,I.bare,⟨fun b o e n hb hx=>?_,fun b o e n hb hx=>?_,I.base.free,fun b o e hx=>?_,I.base.tups,I.base.lG,I.base.nh⟩,⟨_,hn',fun j y v' e1 e2 e3=>?_⟩,fun y c e=>?_,I.free,I.jF,fun p hp=>?_,tracked ⟨oL,LY,I.free⟩ hs,by simpa using I.len⟩ ⟨_,hs,.inl rfl⟩
  ·exact(hs.2 b (Nat.ne_of_lt (Nat.lt_of_lt_of_le (Heap.lt_size e) I.ok.above))).trans (I.base.keep b o e n hb hx)
  ·obtain⟨sl,e1⟩:=I.base.slot b o e n hb hx
   exact⟨sl,(hs.2 b (Nat.ne_of_lt (Nat.lt_of_lt_of_le (Heap.lt_size e) I.ok.above))).trans e1⟩
  ·obtain⟨o',e1⟩:=I.base.there b o e hx
   exact⟨o',(hs.2 b (Nat.ne_of_lt (Nat.lt_of_lt_of_le (Heap.lt_size e) I.ok.above))).trans e1⟩
  ·by_cases hj:j=i
   ·subst hj
    rw[hi]at e1;cases e1
    rw[List.getElem?_set_self hiσ]at e2
    cases e2
    exact⟨u,r,.inl ⟨hk,by simp⟩⟩
   ·rw[List.getElem?_set_ne (Ne.symm hj)]at e2
    obtain⟨u',r',q⟩:=hl j y v' e1 e2 e3
    refine⟨u',r',?_⟩
    rcases q with⟨k,e⟩|⟨k,c,e,z⟩
    ·refine .inl ⟨k,?_⟩
     have:y≠x:=fun e=>hj (BR hN e1 (e▸hi))
     simp[this,e]
    ·exact .inr ⟨k,c,e,z.sameBut hs (oS y c e)⟩
  ·obtain⟨w',z⟩:=I.cell y c e
   exact⟨w',z.sameBut hs (oS y c e)⟩
  ·obtain⟨e,n,ne,nf,d⟩:=I.pin p hp
   exact⟨(hs.2 p.1 ne).trans e,n,ne,nf,d⟩
 ·have hfn:X.fn x=true:=by
   rcases hf with z|z
   ·exact z
   ·rw[z]at hk;cases hk
  obtain⟨c,hc⟩:=I.ok.has x (.inl hk)
  obtain⟨w',z⟩:=I.cell x c hc
  refine wpAny_storeName_cell I.ok.kind hk hc z (fun h' hc' hs=>?_)
  obtain⟨oc,hoc,LZ⟩:=id z
  refine h {s with heap:=h'} ⟨I.ok,I.os,I.bare,⟨fun b o e n hb hx=>?_,fun b o e n hb hx=>?_,I.base.free,fun b o e hx=>?_,I.base.tups,I.base.lG,I.base.nh⟩,⟨m,hn.sameBut hs (Ne.symm (oS x c hc)),fun j y v' e1 e2 e3=>?_⟩,fun y c' e=>?_,I.free,I.jF,fun p hp=>?_,tracked ⟨oc,hoc,I.jF x c hc⟩ hs,by simpa using I.len⟩ ⟨c,hs,.inr hc⟩
  ·exact(hs.2 b (Nat.ne_of_lt (Nat.lt_of_lt_of_le (Heap.lt_size e) (I.ok.sC x c hfn hc)))).trans (I.base.keep b o e n hb hx)
  ·obtain⟨sl,e1⟩:=I.base.slot b o e n hb hx
   exact⟨sl,(hs.2 b (Nat.ne_of_lt (Nat.lt_of_lt_of_le (Heap.lt_size e) (I.ok.sC x c hfn hc)))).trans e1⟩
  ·obtain⟨o',e1⟩:=I.base.there b o e hx
   exact⟨o',(hs.2 b (Nat.ne_of_lt (Nat.lt_of_lt_of_le (Heap.lt_size e) (I.ok.sC x c hfn hc)))).trans e1⟩
  ·by_cases hj:j=i
   ·subst hj
    rw[hi]at e1;cases e1
    rw[List.getElem?_set_self hiσ]at e2
    cases e2
    exact⟨u,r,.inr ⟨.inl hk,c,hc,hc'⟩⟩
   ·rw[List.getElem?_set_ne (Ne.symm hj)]at e2
    obtain⟨u',r',q⟩:=hl j y v' e1 e2 e3
    refine⟨u',r',?_⟩
    rcases q with q|⟨k,c',e,z'⟩
    ·exact .inl q
    ·refine .inr ⟨k,c',e,z'.sameBut hs ?_⟩
     rintro rfl
     exact hj (BR hN e1 (I.ok.inj _ _ _ e hc▸hi))
  ·by_cases hcc:c'=c
   ·subst hcc;exact⟨_,hc'⟩
   ·obtain⟨w2,z2⟩:=I.cell y c' e
    exact⟨w2,z2.sameBut hs hcc⟩
  ·obtain⟨e,n,ne,nf,d⟩:=I.pin p hp
   refine⟨(hs.2 p.1 ?_).trans e,n,ne,nf,d⟩
   intro q
   rw[q,hoc]at e
   have q':oc=p.2:=Option.some.inj e
   exact d w' (by rw[←q'];exact LZ)
theorem BS {M:Model} {A:Around} {E:Value→Shared→Prop} {i:Nat} {x:Str} {v:V} {u:Value} {Q:Unit→Shared→Prop} (I:Inv X pins σ H s) (hN:X.N.Nodup) (hi:X.N[i]? =some x) (hx:Loc X.env.scope x) (r:RelV v u)
  (h:∀s',Inv X pins (σ.set i (some v)) H s'→Q () s') (hf:X.fn x=true∨X.env.scope.names.lookup x=some .local:=by first|exact .inl rfl|exact .inr rfl|assumption):wpAny M A (storeName X.env x u) Q E s:=
 LX I hN hi hx r (fun s' I' _=>h s' I') hf
theorem Inv.L0 {s':Shared} {ch:List Addr} (I:Inv X pins σ H s) (ho:s'.os=s.os) (u:Un (frs X.stack) ch H H' s.heap s'.heap) (hok:cX X.prog X.w H' s'.heap) (hg:AllBare s'.gens)
  (hch:∀b∈ch,(b∈X.ex∨X.eY.heap.objs.size≤b)∧b≠X.env.locals∧(∀x c,X.env.cells.lookup x=some c→c≠b)∧∀p∈X.pn++pins,p.1≠b):Inv X pins σ H' s':=by
 obtain⟨h',g',d',t',o'⟩:=s'
 have e:o'=s.os:=ho
 subst e
 exact I.call (g':=g') (t':=t') (d':=d') u hok hg hch
end
abbrev XK:=Value→Option Addr→Hp→Prop
abbrev St:=List (Option V)
abbrev VK:=V→Hp→Prop
abbrev TE:=St→Hp→VK→Prop
abbrev TT:=St→Hp→(Bool→Hp→Prop)→Prop
abbrev TA:=St→Hp→(List V→Hp→Prop)→Prop
structure Ends where
 nx:St→Hp→Prop
 rt:VK
 bk:St→Hp→Prop:=fun _ _=>False
 ct:St→Hp→Prop:=fun _ _=>False
abbrev TS:=Ends→St→Hp→Prop
def EP (X:Cx) (pins:List (Addr×Obj)) (σ:St) (Q:VK) (u:Value) (s':Shared):Prop:=∃v H',Inv X pins σ H' s'∧RelV v u∧Q v H'
def TP (X:Cx) (pins:List (Addr×Obj)) (σ:St) (Q:Bool→Hp→Prop) (b:Bool) (s':Shared):Prop:=∃H',Inv X pins σ H' s'∧Q b H'
def AP (X:Cx) (pins:List (Addr×Obj)) (σ:St) (Q:List V→Hp→Prop) (us:List Value) (s':Shared):Prop:=∃vs H',Inv X pins σ H' s'∧Vals vs us∧Q vs H'
def SP (X:Cx) (pins:List (Addr×Obj)) (D:Ends) (f:Flow) (s':Shared):Prop:=
 match f with
 | .next=>∃σ' H',Inv X pins σ' H' s'∧D.nx σ' H'
 | .brk=>∃σ' H',Inv X pins σ' H' s'∧D.bk σ' H'
 | .cont=>∃σ' H',Inv X pins σ' H' s'∧D.ct σ' H'
 | .ret u=>∃v σ' H',Inv X pins σ' H' s'∧RelV v u∧D.rt v H'
def PE (X:Cx) (e:Expr) (t:TE):Prop:=
 ∀(pins:List (Addr×Obj)) (s:Shared) (σ:St) (H:Hp) (Q:VK),Inv X pins σ H s→t σ H Q→wpAny (model X.prog X.w) X.A (eval e X.env) (EP X pins σ Q) X.xe s
def PT (X:Cx) (e:Expr) (t:TT):Prop:=
 ∀(pins:List (Addr×Obj)) (s:Shared) (σ:St) (H:Hp) (Q:Bool→Hp→Prop),Inv X pins σ H s→t σ H Q→wpAny (model X.prog X.w) X.A (isTrue e X.env (eval e X.env)) (TP X pins σ Q) X.xe s
def PW (X:Cx) (e:Expr) (t:TT):Prop:=
 ∀(whole:Sem Value) (pins:List (Addr×Obj)) (s:Shared) (σ:St) (H:Hp) (Q:Bool→Hp→Prop),Inv X pins σ H s→t σ H Q→wpAny (model X.prog X.w) X.A (isTrue e X.env whole) (TP X pins σ Q) X.xe s
theorem PW.pt {X:Cx} {e:Expr} {t:TT} (h:PW X e t):PT X e t:=h _
def PA (X:Cx) (es:List Expr) (t:TA):Prop:=
 ∀(pos:Pos) (pins:List (Addr×Obj)) (s:Shared) (σ:St) (H:Hp) (Q:List V→Hp→Prop),Inv X pins σ H s→t σ H Q→wpAny (model X.prog X.w) X.A (spliced (backTo pos (starEach es X.env))) (AP X pins σ Q) X.xe s
def PS (X:Cx) (st:Stmt) (t:TS):Prop:=
 ∀(pins:List (Addr×Obj)) (s:Shared) (σ:St) (H:Hp) (D:Ends),Inv X pins σ H s→t D σ H→wpAny (model X.prog X.w) X.A (exec st X.env) (SP X pins D) X.xe s
def gc (X:Cx) (st:List Stmt) (t:TS):Prop:=
 ∀(pins:List (Addr×Obj)) (s:Shared) (σ:St) (H:Hp) (D:Ends),Inv X pins σ H s→t D σ H→wpAny (model X.prog X.w) X.A (execs st X.env) (SP X pins D) X.xe s
theorem aV {α:Type} {t:Sem α} {Q Q':α→Shared→Prop} {M:Model} {A:Around} {E:Value→Shared→Prop} {s:Shared} (h:wpAny M A t Q E s) (hQ:∀a s,Q a s→Q' a s):wpAny M A t Q' E s:=wpAny_mono h hQ fun _ _ x=>x
section
variable {X:Cx}
theorem bin {a b:Expr} {ta tb:TE} (ha:PE X a ta) (hb:PE X b tb) {pins:List (Addr×Obj)} {s:Shared} {σ:St} {H:Hp} {R:V→V→Hp→Prop} (I:Inv X pins σ H s) (h:ta σ H fun x H1=>tb σ H1 fun y H2=>R x y H2)
  {α:Type} {Q:α→Shared→Prop} {f:Value→Value→Sem α}
  (hf:∀v u s2 x y H2,Inv X pins σ H2 s2→RelV x v→RelV y u→R x y H2→wpAny (model X.prog X.w) X.A (f v u) Q X.xe s2):
  wpAny (model X.prog X.w) X.A (eval a X.env) (fun v s₁=>wpAny (model X.prog X.w) X.A (eval b X.env) (fun u s₂=>wpAny (model X.prog X.w) X.A (f v u) Q X.xe s₂) X.xe s₁) X.xe s:=by
 refine aV (ha pins s σ H _ I h) fun v s1 zq0=>?_
 obtain⟨x,H1,I1,r1,q1⟩:=zq0
 refine aV (hb pins s1 σ H1 _ I1 q1) fun u s2 zq0=>?_
 obtain⟨y,H2,I2,r2,q2⟩:=zq0
 exact hf v u s2 x y H2 I2 r1 r2 q2
inductive X2 {α:Type} (A B:α→Prop):Prop where|mk (w:α) (a:A w) (b:B w)
inductive X3 {α β:Type} (A:α→Prop) (B:β→Prop) (C:α→β→Prop):Prop where|mk (i:α) (j:β) (a:A i) (b:B j) (c:C i j)
def bh (i:Nat):TE:=fun σ H Q=>X2 (fun v=>σ[i]? =some (some v)) fun v=>Q v H
def tC (v:V):TE:=fun _ H Q=>Q v H
theorem L5 {i:Nat} {x:Str} {pos:Pos} (hN:X.N[i]? =some x) (hv:qA X.env.scope x) (hd:(x==("__debug__":Str))=false:=by decide+kernel) (hcd:(x==("__classdict__":Str))=false:=by decide+kernel):PE X (.Name x pos) (bh i):=by
 intro pins s σ H Q I h
 obtain⟨v,e,h⟩:=h
 obtain⟨m,hn,hl⟩:=I.loc
 obtain⟨u,r,l⟩:=hl i x v hN e hv
 have fin:EP X pins σ Q u s:=⟨v,H,I,r,h⟩
 rcases l with⟨hk,hm⟩|⟨hk,c,hc,hcell⟩
 ·exact wpAny_Name (wpAny_loadName_local I.ok.kind hk hn hm fin) hd
 ·rcases hk with hk|hk
  ·exact wpAny_Name (wpAny_loadName_cell I.ok.kind hk hc hcell fin) hd
  ·exact wpAny_Name (wpAny_loadName_free I.ok.kind hk hc hcell fin hcd) hd
theorem aj {i j pos}:PE X (.Constant (.int i) j pos) (tC (.int i)):=fun _ _ _ H _ I h=>wpAny_Constant_int ⟨.int i,H,I.tok _,⟨_,rfl⟩,h⟩
theorem lI {b j pos}:PE X (.Constant (.bool b) j pos) (tC (.bl b)):=fun _ _ _ H _ I h=>Constant_bool ⟨.bl b,H,I,rfl,h⟩
theorem dO {j pos}:PE X (.Constant .none j pos) (tC .aK):=fun _ _ _ H _ I h=>Constant_none ⟨.aK,H,I,rfl,h⟩
theorem jG {x j pos}:PE X (.Constant (.str x) j pos) (tC (.str x)):=fun _ _ _ H _ I h=>Calls.Constant_str ⟨.str x,H,I.tok _,⟨_,rfl⟩,h⟩
def Gl (X:Cx) (x:Str):Prop:=X.env.kindOf x=some .globalImplicit
theorem vE {E:Value→Shared→Prop} {pins:List (Addr×Obj)} {s:Shared} {σ:St} {H:Hp} {x:Str} {u:Value} {pos:Pos} {Q:Value→Shared→Prop} (I:Inv X pins σ H s) (hg:Gl X x) (hm:X.mg x=some u) (h:Q u s)
  (hd:(x==("__debug__":Str))=false:=by decide+kernel):wpAny (model X.prog X.w) X.A (eval (.Name x pos) X.env) Q E s:=
 Calls.Name_function_global I.ok.kind hg (Calls.loadGlobal_global (by rw[I.ok.glob];exact I.mod.glob.keeps I.bk) hm h) hd
theorem qB {E:Value→Shared→Prop} {pins:List (Addr×Obj)} {s:Shared} {σ:St} {H:Hp} {x:Str} {u:Value} {pos:Pos} {Q:Value→Shared→Prop} (I:Inv X pins σ H s) (hg:Gl X x) (hm:X.mg x=none) (hv:bootBuiltins x=some u) (h:Q u s)
  (hn:x≠"__name__":=by decide) (hd:(x==("__debug__":Str))=false:=by decide+kernel):wpAny (model X.prog X.w) X.A (eval (.Name x pos) X.env) Q E s:=by
 obtain⟨mb,h1,h2⟩:=I.mod.blt
 exact Calls.Name_function_global I.ok.kind hg (Calls.loadGlobal_builtin (by rw[I.ok.glob];exact I.mod.glob.keeps I.bk) hm (by rw[I.ok.blt];exact h1.keeps I.bk) ((h2 x hn).trans hv) h) hd
theorem Fq {x:Str} {v:V} {u:Value} {pos:Pos} (hg:Gl X x) (hm:X.mg x=some u) (r:RelV v u) (hd:(x==("__debug__":Str))=false:=by decide+kernel):PE X (.Name x pos) (tC v):=
 fun _ _ _ H _ I h=>vE I hg hm ⟨v,H,I,r,h⟩ hd
def L6 (ta tb:TE) (k:Int→Int→Hp→Prop):St→Hp→Prop:=fun σ H=>ta σ H fun x H1=>tb σ H1 fun y H2=>X3 (fun i=>x= .int i) (fun j=>y= .int j) fun i j=>k i j H2
variable {a b:Expr} {ta tb:TE} {pos:Pos}
def PC (X:Cx) (op:CmpOp) (a b:Expr) (t:TE):Prop:=
 ∀(pins:List (Addr×Obj)) (s:Shared) (σ:St) (H:Hp) (Q:VK),Inv X pins σ H s→t σ H Q→
  wpAny (model X.prog X.w) X.A (eval a X.env) (fun v s₁=>wpAny (model X.prog X.w) X.A (eval b X.env) (fun u s₂=>wpAny (model X.prog X.w) X.A (compareOp op v u) (EP X pins σ Q) X.xe s₂) X.xe s₁) X.xe s
theorem Ft (b:Expr) {op:CmpOp} (h:op≠ .In) (h2:op≠ .NotIn):behindInMarks op b=false:=by
 have e1:(op==CmpOp.In)=false:=by cases op<;>first|rfl|exact absurd rfl h
 have e2:(op==CmpOp.NotIn)=false:=by cases op<;>first|rfl|exact absurd rfl h2
 cases b<;>simp[behindInMarks,e1,e2]
def BU (p:Int→Int→Bool) (ta tb:TE):TE:=fun σ H Q=>L6 ta tb (fun i j H2=>Q (.bl (p i j)) H2) σ H
abbrev vF:TE→TE→TE:=BU fun i j=>decide (i=j)
abbrev Fv:TE→TE→TE:=BU fun i j=> !decide (i=j)
theorem Fw {op:CmpOp} {p:Int→Int→Bool} (ha:PE X a ta) (hb:PE X b tb)
  (rule:∀(i j:Int) (t u:Tok) (Q:Value→Shared→Prop) (s:Shared),Q (.bool (p i j)) s→wpAny (model X.prog X.w) X.A (compareOp op (.int i t) (.int j u)) Q X.xe s):PC X op a b (BU p ta tb):=by
 intro pins s σ H Q I h
 refine bin ha hb I h fun v u s2 x y H2 I2 rx ry q=>?_
 obtain⟨i,j,rfl,rfl,q⟩:=q
 obtain⟨t,rfl⟩:=rx
 obtain⟨t',rfl⟩:=ry
 exact rule i j t t' _ s2 ⟨.bl _,H2,I2,rfl,q⟩
theorem aO (ha:PE X a ta) (hb:PE X b tb):PC X .Eq a b (vF ta tb):=Fw ha hb fun _ _ _ _ _ _ h=>eq_int (by rw[Bool.beq_eq_decide_eq];exact h)
theorem gp (ha:PE X a ta) (hb:PE X b tb):PC X .NotEq a b (Fv ta tb):=Fw ha hb fun _ _ _ _ _ _ h=>ne_int (by rw[bne,Bool.beq_eq_decide_eq];exact h)
def tB (t:TE):TT:=fun σ H Q=>t σ H fun x H1=>X2 (fun c=>x= .bl c) fun c=>Q c H1
theorem bD {op:CmpOp} {t:TE} (h:PC X op a b t) (h1:behindInMarks op b=false:=by first|exact Ft _ (by decide) (by decide)|rfl):PE X (.Compare a [op] [b] pos) t:=fun pins s σ H Q I hw=>wpAny_Compare1 (h pins s σ H Q I hw) h1
theorem aX {op:CmpOp} {t:TE} (h:PC X op a b t) (h1:behindInMarks op b=false:=by first|exact Ft _ (by decide) (by decide)|rfl):PT X (.Compare a [op] [b] pos) (tB t):=by
 intro pins s σ H Q I hw
 refine wpAny_isTrue_Compare1 (aV (h pins s σ H _ I hw) fun v s1 h1=>aV h1 fun u s2 h2=>aV h2 fun c s3 ⟨x,H1,I1,r1,q1⟩=>?_) h1
 obtain⟨d,rfl,q⟩:=q1
 cases r1
 exact wpAny_truthy_bool ⟨H1,I1,q⟩
variable {tA vG:TT} {rest:List Expr}
def vH (t u:TT):TT:=fun σ H Q=>t σ H fun c H1=>if c=true then u σ H1 Q else Q false H1
def Fx (t u:TT):TT:=fun σ H Q=>t σ H fun c H1=>if c=true then Q true H1 else u σ H1 Q
def L7 (t:TT):TT:=fun σ H Q=>t σ H fun c H1=>Q (!c) H1
theorem gI (ha:PT X a tA):PW X (.BoolOp .And [a] pos) tA:=by
 intro wh pins s σ H Q I h
 refine isTrue_and (aV (ha pins s σ H Q I h) fun c s1 e=>?_)
 cases c with
 |true=>exact isTrue_and_nil e
 |false=>exact e
theorem i8 (ha:PT X a tA):PW X (.BoolOp .Or [a] pos) tA:=by
 intro wh pins s σ H Q I h
 refine isTrue_or (aV (ha pins s σ H Q I h) fun c s1 e=>?_)
 cases c with
 |false=>exact isTrue_or_nil e
 |true=>exact e
theorem gq (ha:PT X a tA) (hb:PW X (.BoolOp .And (b::rest) pos) vG):PW X (.BoolOp .And (a::b::rest) pos) (vH tA vG):=by
 intro wh pins s σ H Q I h
 refine isTrue_and (aV (ha pins s σ H _ I h) fun c s1 zq0=>?_)
 obtain⟨H1,I1,q1⟩:=zq0
 cases c with
 |true=>exact hb wh pins s1 σ H1 Q I1 q1
 |false=>exact⟨H1,I1,q1⟩
theorem gJ (ha:PT X a tA) (hb:PW X (.BoolOp .Or (b::rest) pos) vG):PW X (.BoolOp .Or (a::b::rest) pos) (Fx tA vG):=by
 intro wh pins s σ H Q I h
 refine isTrue_or (aV (ha pins s σ H _ I h) fun c s1 zq0=>?_)
 obtain⟨H1,I1,q1⟩:=zq0
 cases c with
 |true=>exact⟨H1,I1,q1⟩
 |false=>exact hb wh pins s1 σ H1 Q I1 q1
theorem gK (ha:PT X a tA):PT X (.UnaryOp .Not a pos) (L7 tA):=by
 intro pins s σ H Q I h
 exact isTrue_not (ha pins s σ H (fun c H1=>Q (!c) H1) I h)
def BV (ta tb:TE):TE:=fun σ H Q=>ta σ H fun x H1=>X2 (fun c=>x= .bl c) fun c=>if c=true then tb σ H1 Q else Q (.bl false) H1
def L8 (ta tb:TE):TE:=fun σ H Q=>ta σ H fun x H1=>X2 (fun c=>x= .bl c) fun c=>if c=true then Q (.bl true) H1 else tb σ H1 Q
def Fy (ta:TE):TE:=fun σ H Q=>ta σ H fun x H1=>X2 (fun c=>x= .bl c) fun c=>Q (.bl (!c)) H1
theorem cC {op} {t:TE} (h:PE X a t):PE X (.BoolOp op [a] pos) t:=fun pins s σ H Q I hw=>BoolOp_one (h pins s σ H Q I hw)
theorem bN (ha:PE X a ta) (hb:PE X (.BoolOp .And (b::rest) pos) tb):PE X (.BoolOp .And (a::b::rest) pos) (BV ta tb):=by
 intro pins s σ H Q I h
 refine BoolOp_and (aV (ha pins s σ H _ I h) fun v s1 zq0=>?_)
 obtain⟨x,H1,I1,r1,q1⟩:=zq0
 obtain⟨c,rfl,q1⟩:=q1
 cases r1
 refine wpAny_truthy_bool ?_
 cases c with
 |true=>exact hb pins s1 σ H1 Q I1 q1
 |false=>exact⟨.bl false,H1,I1,rfl,q1⟩
theorem vI (ha:PE X a ta) (hb:PE X (.BoolOp .Or (b::rest) pos) tb):PE X (.BoolOp .Or (a::b::rest) pos) (L8 ta tb):=by
 intro pins s σ H Q I h
 refine BoolOp_or (aV (ha pins s σ H _ I h) fun v s1 zq0=>?_)
 obtain⟨x,H1,I1,r1,q1⟩:=zq0
 obtain⟨c,rfl,q1⟩:=q1
 cases r1
 refine wpAny_truthy_bool ?_
 cases c with
 |false=>exact hb pins s1 σ H1 Q I1 q1
 |true=>exact⟨.bl true,H1,I1,rfl,q1⟩
theorem BW (ha:PE X a ta):PE X (.UnaryOp .Not a pos) (Fy ta):=by
 intro pins s σ H Q I h
 refine UnaryOp_ (aV (ha pins s σ H _ I h) fun v s1 zq0=>?_)
 obtain⟨x,H1,I1,r1,q1⟩:=zq0
 obtain⟨c,rfl,q1⟩:=q1
 cases r1
 exact not_of (wpAny_truthy_bool ⟨.bl (!c),H1,I1,rfl,q1⟩)
def Fz (t:TT) (ta tb:TE):TE:=fun σ H Q=>t σ H fun c H1=>if c=true then ta σ H1 Q else tb σ H1 Q
theorem cN {c:Expr} (hc:PT X c tA) (ha:PE X a ta) (hb:PE X b tb):PE X (.IfExp c a b pos) (Fz tA ta tb):=by
 intro pins s σ H Q I h
 refine wpAny_IfExp (aV (hc pins s σ H _ I h) fun d s1 zq0=>?_)
 obtain⟨H1,I1,q1⟩:=zq0
 cases d with
 |true=>exact ha pins s1 σ H1 Q I1 q1
 |false=>exact hb pins s1 σ H1 Q I1 q1
end
def aJ (K:W.Frag) (H:Hp) (a:Addr) (xs:List V):Prop:=
 Rd H a (.lst xs)∨
  ∃(o:Obj) (its:Array Value) (n:Nat),K.lookup a=some o∧o.cls= .type "list"∧o.dict=none∧o.data= .seq its n∧its.size≤sizeLine∧Vals xs its.toList
def cI (K:W.Frag) (H:Hp) (a:Addr) (xs:List V):Prop:=
 Rd H a (.tup xs)∨
  ∃(o:Obj) (its:Array Value) (n:Nat),K.lookup a=some o∧o.cls= .type "tuple"∧o.data= .seq its n∧its.size≤sizeLine∧Vals xs its.toList
def Ma:Value→Option V
 | .none=>some .aK
 | .bool b=>some (.bl b)
 | .int i _=>some (.int i)
 | .str x _=>some (.str x)
 | .bytes b _=>some (.fP b)
 | .float b _=>some (.vz b)
 | .ref a=>some (.ref a)
 | .type n=>some (.ty n)
 |_=>none
theorem RelV.abs {x:V} {u:Value} (r:RelV x u):Ma u=some x:=by
 cases x with
 |aK=>cases r;rfl
 |bl _=>cases r;rfl
 |int _=>obtain⟨t,rfl⟩:=r;rfl
 |str _=>obtain⟨t,rfl⟩:=r;rfl
 |fP _=>obtain⟨t,rfl⟩:=r;rfl
 |vz _=>obtain⟨t,rfl⟩:=r;rfl
 |ref _=>cases r;rfl
 |ty _=>cases r;rfl
theorem RelV.inj {x y:V} {u:Value} (r:RelV x u) (q:RelV y u):x=y:=Option.some.inj (r.abs.symm.trans q.abs)
theorem Vals.inj:∀{xs ys:List V} {us:List Value},Vals xs us→Vals ys us→xs=ys
 |_,_,_,.nil,.nil=>rfl
 |_,_,_,.cons r t,.cons r' t'=>by rw[r.inj r',Vals.inj t t']
section
variable {X:Cx} {pins:List (Addr×Obj)} {σ:St} {H:Hp} {s:Shared} {a:Addr} {xs ys:List V}
theorem aJ.of {K:W.Frag} (h:H a=some (.lst xs)):aJ K H a xs:= .inl (.inl h)
theorem cI.of {K:W.Frag} (h:H a=some (.tup xs)):cI K H a xs:= .inl (.inl h)
theorem Inv.list (I:Inv X pins σ H s) (h:aJ X.K H a xs):∃its:List Value,Vals xs its∧PlainL s.heap a its.toArray∧xs.length≤sizeLine:=by
 rcases h with h|⟨o,its,n,hk,hc,hd,hs,hz,r⟩
 ·obtain⟨z,its,n,r,e⟩:=h.ok I.hok
  exact⟨its,r,⟨_,n,e,rfl,rfl,rfl⟩,z⟩
 ·refine⟨its.toList,r,⟨o,n,I.fD a o hk,hc,hd,by simpa using hs⟩,?_⟩
  have e:=r.length
  simp only[Array.length_toList]at e
  omega
theorem Inv.tuple (I:Inv X pins σ H s) (h:cI X.K H a xs):∃its:List Value,Vals xs its∧IsTup s.heap a its.toArray∧xs.length≤sizeLine:=by
 rcases h with h|⟨o,its,n,hk,hc,hs,hz,r⟩
 ·obtain⟨z,its,r,p⟩:=h.ok I.hok
  exact⟨its,r,p,z⟩
 ·refine⟨its.toList,r,⟨o,I.fD a o hk,hc,n,by simpa using hs⟩,?_⟩
  have e:=r.length
  simp only[Array.length_toList]at e
  omega
theorem Inv.BX (I:Inv X pins σ H s) (h:aJ X.K H a xs) (h':aJ X.K H a ys):xs=ys:=by
 obtain⟨its,r,⟨o,n,e,_,_,d⟩,_⟩:=I.list h
 obtain⟨its',r',⟨o',n',e',_,_,d'⟩,_⟩:=I.list h'
 rw[e]at e';cases e'
 rw[d]at d'
 injection d' with d1 _
 have:its=its':=by simpa using congrArg Array.toList d1
 subst this
 exact r.inj r'
end
abbrev Cx.kJ (X:Cx) (E:Value→Shared→Prop):Cx:={X with xe:=E}
abbrev Cx.oU (X:Cx):Cx:=X.kJ fun _ _=>False
theorem Cx.Ok.kJ {X:Cx} (ok:X.Ok) (E:Value→Shared→Prop):(X.kJ E).Ok:=
 ⟨ok.mod,ok.kind,ok.glob,ok.blt,ok.above,ok.inj,ok.has,ok.sC,ok.hd,ok.frames,ok.stk,ok.vC,ok.bs,ok.kI,ok.sD,ok.sE,ok.i7,ok.oR⟩
theorem Cx.Ok.nj {X:Cx} {E:Value→Shared→Prop} (ok:(X.kJ E).Ok):X.Ok:=
 ⟨ok.mod,ok.kind,ok.glob,ok.blt,ok.above,ok.inj,ok.has,ok.sC,ok.hd,ok.frames,ok.stk,ok.vC,ok.bs,ok.kI,ok.sD,ok.sE,ok.i7,ok.oR⟩
section
variable {X:Cx} {pins:List (Addr×Obj)} {σ:St} {H:Hp} {s:Shared} {E:Value→Shared→Prop}
theorem Inv.kJ (I:Inv X pins σ H s) (E:Value→Shared→Prop):Inv (X.kJ E) pins σ H s:=⟨I.ok.kJ E,I.os,I.bare,I.base,I.loc,I.cell,I.free,I.jF,I.pin,I.hok,I.len⟩
theorem Inv.nj (I:Inv (X.kJ E) pins σ H s):Inv X pins σ H s:=⟨I.ok.nj,I.os,I.bare,I.base,I.loc,I.cell,I.free,I.jF,I.pin,I.hok,I.len⟩
theorem SP.nj {D:Ends} {f:Flow} {s':Shared} (h:SP (X.kJ E) pins D f s'):SP X pins D f s':=by
 cases f with
 |next=>obtain⟨σ',H',I,q⟩:=h;exact⟨σ',H',I.nj,q⟩
 |brk=>obtain⟨σ',H',I,q⟩:=h;exact⟨σ',H',I.nj,q⟩
 |cont=>obtain⟨σ',H',I,q⟩:=h;exact⟨σ',H',I.nj,q⟩
 |ret u=>obtain⟨v,σ',H',I,r,q⟩:=h;exact⟨v,σ',H',I.nj,r,q⟩
theorem gc.oU {st:List Stmt} {t:TS} (h:gc X.oU st t):gc X st t:=fun pins s σ H D I hw=>
 wpAny_mono (h pins s σ H D (I.kJ _) hw) (fun _ _ q=>q.nj) fun _ _ z=>False.elim z
end
section
variable {X:Cx} {st:Stmt} {rest:List Stmt} {t u:TS} {e:Expr} {te:TE} {pos:Pos}
def qC:TS:=fun D σ H=>D.nx σ H
def eN (t u:TS):TS:=fun D σ H=>t {D with nx:=u D} σ H
theorem aP:gc X [] qC:=fun _ _ σ H _ I h=>wpAny_execs_nil ⟨σ,H,I,h⟩
theorem au (h1:PS X st t) (h2:gc X rest u):gc X (st::rest) (eN t u):=by
 intro pins s σ H D I h
 refine wpAny_execs_cons (aV (h1 pins s σ H {D with nx:=u D} I h) fun f s1 q=>?_)
 cases f with
 |next=>
  obtain⟨σ',H',I',q⟩:=q
  exact h2 pins s1 σ' H' D I' q
 |ret v=>exact q
 |brk=>exact q
 |cont=>exact q
theorem ak (h1:PS X st t):gc X [st] t:=by
 intro pins s σ H D I h
 refine wpAny_execs_cons (aV (h1 pins s σ H D I h) fun f s1 q=>?_)
 cases f with
 |next=>exact wpAny_execs_nil q
 |ret v=>exact q
 |brk=>exact q
 |cont=>exact q
def Mb:TS:=fun D σ H=>D.ct σ H
theorem Mc:PS X (.Continue pos) Mb:=fun _ _ σ H _ I h=>wpAny_Continue ⟨σ,H,I,h⟩
theorem Inv.quiet {pins:List (Addr×Obj)} {σ:St} {H:Hp} {s:Shared} (I:Inv X pins σ H s):interactive X.env=false:=by simp[interactive,I.ok.kind]
def qD (te:TE):TS:=fun D σ H=>te σ H fun _ H1=>D.nx σ H1
theorem jH (he:PE X e te) (hs:swapsWith e none pos.line X.env=pure false:=by rfl):PS X (.Expr e pos) (qD te):=by
 intro pins s σ H D I h
 exact wpAny_Expr_any (aV (he pins s σ H _ I h) fun v s1 ⟨x,H1,I1,r1,q1⟩=>⟨σ,H1,I1,q1⟩) I.quiet hs
def kK (te:TE):TS:=fun D σ H=>te σ H D.rt
theorem ay (he:PE X e te):PS X (.Return (some e) pos) (kK te):=by
 intro pins s σ H D I h
 exact wpAny_Return_some (aV (he pins s σ H _ I h) fun v s1 ⟨x,H1,I1,r1,q1⟩=>⟨x,σ,H1,I1,r1,q1⟩)
def BY:TS:=fun D _ H=>D.rt .aK H
theorem vJ:PS X (.Return none pos) BY:=fun _ _ σ H _ I h=>wpAny_Return_none ⟨.aK,σ,H,I,rfl,h⟩
def nk (c:TT) (t u:TS):TS:=fun D σ H=>c σ H fun b H1=>if b=true then t D σ H1 else u D σ H1
theorem aN {c:Expr} {a b:List Stmt} {tc:TT} (hc:PT X c tc) (ha:gc X a t) (hb:gc X b u):PS X (.If c a b pos) (nk tc t u):=by
 intro pins s σ H D I h
 refine wpAny_If (aV (hc pins s σ H _ I h) fun d s1 zq0=>?_)
 obtain⟨H1,I1,q1⟩:=zq0
 cases d with
 |true=>exact ha pins s1 σ H1 D I1 q1
 |false=>exact hb pins s1 σ H1 D I1 q1
def Me:TS:=fun _ _ _=>False
theorem Mf {sts:List Stmt}:gc X sts Me:=fun _ _ _ _ _ _ h=>h.elim
end
abbrev TG:=V→St→Hp→(St→Hp→Prop)→Prop
abbrev oV:=List V→St→Hp→(St→Hp→Prop)→Prop
def PG (X:Cx) (target:Expr) (t:TG):Prop:=
 ∀(pins:List (Addr×Obj)) (s:Shared) (σ:St) (H:Hp) (v:V) (u:Value) (Q:St→Hp→Prop),Inv X pins σ H s→RelV v u→t v σ H Q→
  wpAny (model X.prog X.w) X.A (assign target X.env u) (fun _ s'=>∃σ' H',Inv X pins σ' H' s'∧Q σ' H') X.xe s
def vK (X:Cx) (ts:List Expr) (t:oV):Prop:=
 ∀(pins:List (Addr×Obj)) (s:Shared) (σ:St) (H:Hp) (vs:List V) (us:List Value) (Q:St→Hp→Prop),Inv X pins σ H s→Vals vs us→t vs σ H Q→
  wpAny (model X.prog X.w) X.A (assignInOrder ((assignEach ts X.env).map (·.2)) us) (fun _ s'=>∃σ' H',Inv X pins σ' H' s'∧Q σ' H') X.xe s
abbrev BZ:=V→V→V→Hp→(Hp→Prop)→Prop
def FA (X:Cx) (t:BZ):Prop:=
 ∀(pins:List (Addr×Obj)) (s:Shared) (σ:St) (H:Hp) (o i v:V) (ov iv u:Value) (Q:Hp→Prop),Inv X pins σ H s→RelV o ov→RelV i iv→RelV v u→t o i v H Q→
  wpAny (model X.prog X.w) X.A (setItem ov iv u) (fun _ s'=>∃H',Inv X pins σ H' s'∧Q H') X.xe s
abbrev vL:=V→V→Hp→VK→Prop
def vM (X:Cx) (op:Operator) (t:vL):Prop:=
 ∀(pins:List (Addr×Obj)) (s:Shared) (σ:St) (H:Hp) (x y:V) (v u:Value) (Q:VK),Inv X pins σ H s→RelV x v→RelV y u→t x y H Q→
  wpAny (model X.prog X.w) X.A (inplaceOp op v u) (EP X pins σ Q) X.xe s
section
variable {X:Cx} {pos:Pos}
def qE (i:Nat):TG:=fun v σ H Q=>Q (σ.set i (some v)) H
theorem gf {i:Nat} {x:Str} (hN:X.N.Nodup) (hi:X.N[i]? =some x) (hx:Loc X.env.scope x) (hf:X.fn x=true∨X.env.scope.names.lookup x=some .local:=by first|exact .inl rfl|exact .inr rfl|assumption):PG X (.Name x pos) (qE i):=by
 intro pins s σ H v u Q I r h
 exact wpAny_assign_Name (BS I hN hi hx r (fun s' I'=>⟨_,H,I',h⟩) hf)
def FD:oV:=fun vs σ H Q=>vs=[]∧Q σ H
def B3 (t:TG) (u:oV):oV:=fun vs σ H Q=>∃v r,vs=v::r∧t v σ H fun σ' H'=>u r σ' H' Q
theorem FE:vK X [] FD:=by
 intro pins s σ H vs us Q I r h
 obtain⟨e,h⟩:=h
 subst e
 cases r
 exact assignInOrder_nil ⟨σ,H,I,h⟩
theorem vN {e:Expr} {es:List Expr} {t:TG} {u:oV} (h1:PG X e t) (h2:vK X es u)
  (hs:(assignEach (e::es) X.env).map (·.2)=assign e X.env::(assignEach es X.env).map (·.2):=by rfl):vK X (e::es) (B3 t u):=by
 intro pins s σ H vs us Q I r h
 obtain⟨v,vr,e1,h⟩:=h
 subst e1
 cases r with
 |cons r rr=>
  rw[hs]
  refine assignInOrder_cons (aV (h1 pins s σ H _ _ _ I r h) fun _ s1 zq0=>?_)
  obtain⟨σ1,H1,I1,q1⟩:=zq0
  exact h2 pins s1 σ1 H1 _ _ Q I1 rr q1
def FF (K:W.Frag) (n:Nat) (t:oV):TG:=fun v σ H Q=>∃a xs,v= .ref a∧cI K H a xs∧xs.length=n∧t xs σ H Q
theorem FG {es:List Expr} {k:Nat} {t:oV} {n:Nat} (hc:X.calm=true) (h:vK X es t)
  (hn:(assignEach es X.env).length=n:=by rfl) (hst:(assignEach es X.env).findIdx? (·.1)=none:=by rfl):PG X (.Tuple es k pos) (FF X.K n t):=by
 intro pins s σ H v u Q I r hw
 obtain⟨a,xs,e1,hq,hl,hw⟩:=hw
 subst e1
 cases r
 obtain⟨its,rv,ht,hz⟩:=I.tuple hq
 refine assign_Tuple_tuple (I.ok.hd hc) ht (by simp[hn,←hl,rv.length]) hst fun h' hx=>?_
 have I1:Inv X pins σ H {s with heap:=h'}:=I.kept (t':=s.toks) fun b o e=>hx b o (Nat.ne_of_lt (Heap.lt_size e)) e
 exact h pins _ σ H xs _ Q I1 (by simpa using rv) hw
def oW (to ti:TE) (t:BZ):TG:=fun v σ H Q=>to σ H fun o H1=>ti σ H1 fun i H2=>t o i v H2 fun H3=>Q σ H3
theorem eZ {o i:Expr} {to ti:TE} {t:BZ} (ho:PE X o to) (hi:PE X i ti) (hs:FA X t)
  (ha:∀v,assign (.Subscript o i pos) X.env v=(do
   let ov ←holding [v] (eval o X.env)
   let iv ←holding [v,ov] (eval i X.env)
   standAt pos
   holding [v,ov,iv] (setItem ov iv v)
   release [v,ov,iv] []):=by intro _;rfl):PG X (.Subscript o i pos) (oW to ti t):=by
 intro pins s σ H v u Q I r h
 rw[ha]
 refine wpAny_bind (wpAny_holding (aV (ho pins s σ H _ I h) fun ov s1 zq0=>?_))
 obtain⟨x,H1,I1,r1,q1⟩:=zq0
 refine wpAny_bind (wpAny_holding (aV (hi pins s1 σ H1 _ I1 q1) fun iv s2 zq0=>?_))
 obtain⟨y,H2,I2,r2,q2⟩:=zq0
 refine wpAny_bind (wpAny_standAt (wpAny_bind (wpAny_holding (aV (hs pins s2 σ H2 x y v ov iv u _ I2 r1 r2 r q2) fun _ s3 zq0=>?_))))
 obtain⟨H3,I3,q3⟩:=zq0
 exact wpAny_release ⟨σ,H3,I3,q3⟩
def lJ (te:TE) (g:TG):TS:=fun D σ H=>te σ H fun x H1=>g x σ H1 D.nx
theorem fc {tg e:Expr} {te:TE} {g:TG} (he:PE X e te) (hg:PG X tg g) (hs:swapsWithSole [tg] e pos.line X.env=pure false:=by rfl) (hw:swappedStores [tg] e X.env=pure none:=by rfl)
  (h1:(assignEach [tg] X.env).map (·.2)=[assign tg X.env]:=by rfl):PS X (.Assign [tg] e pos) (lJ te g):=by
 intro pins s σ H D I h
 refine wpAny_Assign_stores (aV (he pins s σ H _ I h) fun v s1 ⟨x,H1,I1,r1,q1⟩=>?_) hs hw
 rw[h1]
 exact aV (hg pins s1 σ H1 x v _ I1 r1 q1) fun _ s2 q=>q
theorem bg {i:Nat} {x:Str} {e:Expr} {te:TE} {pos':Pos} (hN:X.N.Nodup) (hi:X.N[i]? =some x) (hx:Loc X.env.scope x) (he:PE X e te) (hs:swapsWith e (some (.Name x pos')) pos.line X.env=pure false:=by rfl) (hf:X.fn x=true∨X.env.scope.names.lookup x=some .local:=by first|exact .inl rfl|exact .inr rfl|assumption):
  PS X (.Assign [.Name x pos'] e pos) (lJ te (qE i)):=by
 intro pins s σ H D I h
 refine wpAny_Assign_Name (aV (he pins s σ H _ I h) fun v s1 ⟨y,H1,I1,r1,q1⟩=>?_) hs
 exact BS I1 hN hi hx r1 (fun s2 I2=>⟨_,H1,I2,q1⟩) hf
def Mg (i:Nat) (te:TE) (ti:vL):TS:=fun D σ H=>∃x,σ[i]? =some (some x)∧te σ H fun y H1=>ti x y H1 fun z H2=>D.nx (σ.set i (some z)) H2
theorem vO {i:Nat} {x:Str} {e:Expr} {te:TE} {op:Operator} {ti:vL} {pos':Pos} (hN:X.N.Nodup) (hi:X.N[i]? =some x) (hx:Loc X.env.scope x) (he:PE X e te) (ho:vM X op ti) (hf:X.fn x=true∨X.env.scope.names.lookup x=some .local:=by first|exact .inl rfl|exact .inr rfl|assumption):
  PS X (.AugAssign (.Name x pos') op e pos) (Mg i te ti):=by
 intro pins s σ H D I h
 obtain⟨v,e1,h⟩:=h
 obtain⟨m,hn,hl⟩:=I.loc
 have vis:qA X.env.scope x:=by rcases hx with k|k;exact .inl k;exact .inr (.inl k)
 obtain⟨u,r,l⟩:=hl i x v hi e1 vis
 refine wpAny_AugAssign_Name ?_
 have go:wpAny (model X.prog X.w) X.A (eval e X.env) (fun w s₂=>wpAny (model X.prog X.w) X.A (inplaceOp op u w) (fun r s₃=>wpAny (model X.prog X.w) X.A (storeName X.env x r) (fun _=>SP X pins D .next) X.xe s₃) X.xe s₂) X.xe s:=by
  refine aV (he pins s σ H _ I h) fun w s1 zq0=>?_
  obtain⟨y,H1,I1,r1,q1⟩:=zq0
  refine aV (ho pins s1 σ H1 v y u w _ I1 r r1 q1) fun z s2 zq0=>?_
  obtain⟨zv,H2,I2,r2,q2⟩:=zq0
  exact BS I2 hN hi hx r2 (fun s3 I3=>⟨_,H2,I3,q2⟩) hf
 rcases l with⟨hk,hm⟩|⟨hk,c,hc,hcell⟩
 ·exact wpAny_loadName_local I.ok.kind hk hn hm go
 ·rcases hk with hk|hk
  ·exact wpAny_loadName_cell I.ok.kind hk hc hcell go
  ·rcases hx with k|k
   ·have:X.env.scope.names.lookup x=some .free:=hk
    rw[k]at this;cases this
   ·have:X.env.scope.names.lookup x=some .free:=hk
    rw[k]at this;cases this
def B4 (f:Int→Int→Int):vL:=fun x y H Q=>X3 (fun i=>x= .int i) (fun j=>y= .int j) fun i j=>Q (.int (f i j)) H
theorem FH:vM X .Add (B4 fun i j=>i+j):=by
 intro pins s σ H x y v u Q I r1 r2 h
 obtain⟨i,j,e1,e2,q⟩:=h
 subst e1;subst e2
 obtain⟨t,rfl⟩:=r1
 obtain⟨t',rfl⟩:=r2
 exact iadd_int ⟨.int _,H,I.tok _,⟨_,rfl⟩,q⟩
theorem Mh:vM X .Sub (B4 fun i j=>i-j):=by
 intro pins s σ H x y v u Q I r1 r2 h
 obtain⟨i,j,e1,e2,q⟩:=h
 subst e1;subst e2
 obtain⟨t,rfl⟩:=r1
 obtain⟨t',rfl⟩:=r2
 exact isub_int ⟨.int _,H,I.tok _,⟨_,rfl⟩,q⟩
end
section
variable {X:Cx} {pos:Pos}
def Mi (c:TT) (tb:TS):TS:=fun D σ H=>∃W:Nat→St→Hp→Prop,(∃m,W m σ H)∧∀m σ H,W m σ H→
 c σ H fun b H1=>if b=true then ∃N:St→Hp→Prop,(∀σ' H',N σ' H'→∃m',m'<m∧W m' σ' H')∧tb {D with nx:=N,ct:=N,bk:=D.nx} σ H1 else D.nx σ H1
theorem FI {c:Expr} {body:List Stmt} {tc:TT} {tb:TS} (hp:PassesOwn (model X.prog X.w) X.A X.env X.xe) (hc:PT X c tc) (hb:gc X body tb):PS X (.While c body [] pos) (Mi tc tb):=by
 intro pins s σ H D I h
 obtain⟨W,⟨m0,w0⟩,turn⟩:=h
 refine wpAny_While (codeAny_whileLoop (fun n s'=>∃σ' H',Inv X pins σ' H' s'∧W n σ' H') ?_ m0 ⟨σ,H,I,w0⟩)
 rintro n s1 ⟨σ1,H1,I1,w1⟩
 refine wpAny_passesOwn hp (aV (hc pins s1 σ1 H1 _ I1 (turn n σ1 H1 w1)) fun b s2 zq0=>?_)
 obtain⟨H2,I2,q2⟩:=zq0
 cases b with
 |true=>
  obtain⟨N,hN,q2⟩:=q2
  rw[if_pos rfl]
  refine wpAny_passesOwn hp (aV (hb pins s2 σ1 H2 _ I2 q2) fun f s3 q3=>?_)
  cases f with
  |next=>
   obtain⟨σ3,H3,I3,n3⟩:=q3
   obtain⟨m',hm,w3⟩:=hN σ3 H3 n3
   exact⟨m',hm,σ3,H3,I3,w3⟩
  |cont=>
   obtain⟨σ3,H3,I3,n3⟩:=q3
   obtain⟨m',hm,w3⟩:=hN σ3 H3 n3
   exact⟨m',hm,σ3,H3,I3,w3⟩
  |brk=>exact q3
  |ret v=>exact q3
 |false=>
  rw[if_neg Bool.false_ne_true]
  exact wpAny_execs_nil ⟨σ1,H2,I2,q2⟩
end
structure It where
 go:Nat→Hp→Prop
 nt:Nat→Hp→V→Hp→Prop
 stop:Nat→Hp→Prop
def i9 (X:Cx) (pins:List (Addr×Obj)) (H:Hp) (b:Addr):Prop:=
 H b=none∧b≠X.env.locals∧b ∉ X.fs∧(b∈X.ex∨X.eY.heap.objs.size≤b)∧(∀x c,X.env.cells.lookup x=some c→c≠b)∧∀p∈X.pn++pins,p.1≠b
theorem Inv.sG {X:Cx} {pins:List (Addr×Obj)} {σ:St} {H H':Hp} {s:Shared} {b:Addr} (I:Inv X pins σ H s) (hb:s.heap.objs.size≤b) (hn:H' b=none):i9 X pins H' b:=by
 refine⟨hn,Nat.ne_of_gt (Nat.lt_of_lt_of_le I.lt hb),I.LV hb,.inr (Nat.le_trans I.sz hb),fun x c e z=>?_,fun p hp z=>?_⟩
 ·obtain⟨v,q⟩:=I.cell x c e
  exact absurd (Nat.lt_of_lt_of_le q.lt (by rw[z];exact hb)) (Nat.lt_irrefl _)
 ·exact absurd (Nat.lt_of_lt_of_le (Heap.lt_size (I.pin p hp).1) (by rw[z];exact hb)) (Nat.lt_irrefl _)
structure Turn (P:Program) (w:World) (K:W.Frag) (tg:Expr) (J:It) (fp:List Addr) (it:Addr) (tn:Nat→Heap→Prop):Prop where
 mem:it∈fp
 obj:∀i h,tn i h→∀b∈fp,∃o,h.get? b=some o∧∀v,o.data≠ .cell v
 keep:∀i h h',tn i h→(∀b∈fp,∀o,h.get? b=some o→h'.get? b=some o)→tn i h'
 item:∀(X:Cx),X.prog=P→X.w=w→X.K=K→X.calm=true→∀(i:Nat) (pins:List (Addr×Obj)) (s:Shared) (σ:St) (H:Hp) (E:Value→Shared→Prop),Inv X pins σ H s→(∀b∈fp,i9 X pins H b)→tn i s.heap→J.go i H→
  wpAny (model P w) X.A (pyNext (.ref it)) (fun r s1=>∃u,r=some u∧
   wpAny (model P w) X.A (letOwnedTupleGo tg (.ref it) u) (fun _ s2=>∃x H',Inv X pins σ H' s2∧RelV x u∧J.nt i H x H'∧tn (i+1) s2.heap∧∀b∈fp,H' b=none) E s1) E s
 done:∀(X:Cx),X.prog=P→X.w=w→X.K=K→X.calm=true→∀(i:Nat) (pins:List (Addr×Obj)) (s:Shared) (σ:St) (H:Hp) (E:Value→Shared→Prop),Inv X pins σ H s→(∀b∈fp,i9 X pins H b)→tn i s.heap→J.stop i H→
  wpAny (model P w) X.A (pyNext (.ref it)) (fun r s1=>r=none∧Inv X pins σ H s1) E s
 self:∀(A:Around) (i:Nat) (s:Shared) (Q:Value→Shared→Prop) (E:Value→Shared→Prop),tn i s.heap→Q (.ref it) s→wpAny (model P w) A (pyIter (.ref it)) Q E s
abbrev TI:=St→Hp→(It→Hp→Prop)→Prop
def B5 (X:Cx) (pins:List (Addr×Obj)) (σ:St) (tg:Expr) (R:It→Hp→Prop) (itv:Value) (s2:Shared):Prop:=
 ∃(it:Addr) (fp:List Addr) (tn:Nat→Heap→Prop) (J:It) (H':Hp),itv= .ref it∧Inv X pins σ H' s2∧Turn X.prog X.w X.K tg J fp it tn∧tn 0 s2.heap∧(∀b∈fp,i9 X pins H' b)∧R J H'
def PI (X:Cx) (tg iter:Expr) (wi:TI):Prop:=
 ∀(pins:List (Addr×Obj)) (s:Shared) (σ:St) (H:Hp) (R:It→Hp→Prop),Inv X pins σ H s→wi σ H R→
  wpAny (model X.prog X.w) X.A (eval iter X.env) (fun v s1=>wpAny (model X.prog X.w) X.A (pyIter v) (B5 X pins σ tg R) X.xe s1) X.xe s
theorem B6 {M:Model} {A:Around} {E:Value→Shared→Prop} {s:Shared} {tg:Expr} {it:Addr} {u:Value} {o:Obj} {n:String} {vs:Array Value} {Q:Unit→Shared→Prop} (ho:s.heap.get? it=some o) (hc:o.cls= .type n) (hd:o.data= .fields vs)
  (hn:["enumerate","zip","dict_itemiterator","dict_reverseitemiterator","odict_iterator","itertools.zip_longest","itertools.pairwise"].contains n=false) (hQ:Q () s):wpAny M A (letOwnedTupleGo tg (.ref it) u) Q E s:=by
 unfold letOwnedTupleGo
 cases tg<;>first
  |exact wpAny_pure hQ
  |(cases u<;>first
    |exact wpAny_pure hQ
    |(refine wpAny_bind (wpAny_load ho ?_)
      rw[hc,hd]
      show wpAny M A (if(["enumerate","zip","dict_itemiterator","dict_reverseitemiterator","odict_iterator","itertools.zip_longest","itertools.pairwise"].contains n&&vs[0]? ==some (rawInt _))=true then _ else _) Q E s
      rw[if_neg (by intro h;rw[hn,Bool.false_and]at h;cases h)]
      exact wpAny_pure hQ))
def nv (K:W.Frag) (a:Addr):It:=
 ⟨fun i H=>∃xs x,aJ K H a xs∧xs[i]? =some x,fun i H x H'=>H'=H∧∀xs,aJ K H a xs→xs[i]? =some x,fun i H=>∃xs,aJ K H a xs∧xs.length≤i⟩
def oX (lo:Int) (n:Nat):It:=⟨fun i _=>i<n,fun i H x H'=>H'=H∧x= .int (lo+i),fun i _=>n≤i⟩
theorem Mj {P:Program} {w:World} {K:W.Frag} {tg:Expr} (a it:Addr):Turn P w K tg (nv K a) [it] it (fun i h=>h.IsListIter it a i) where
 mem:=by simp
 obj:=fun i h st b hb=>by
  have e:b=it:=by simpa using hb
  subst e
  obtain⟨o,e,c,d⟩:=st
  exact⟨o,e,fun v z=>by rw[d]at z;cases z⟩
 keep:=fun i h h' st k=>st.at fun o e=>k it (by simp) o e
 item:=by
  intro X hP hw hK hc i pins s σ H E I hf st hg
  subst hP hw hK
  obtain⟨xs,x,hq,hx⟩:=hg
  obtain⟨its,rv,p,hz⟩:=I.list hq
  obtain⟨u,hu,ru⟩:=rv.get hx
  obtain⟨f0,f1,f2,f3,f4,f5⟩:=hf it (by simp)
  refine wpAny_pyNext_list_item st p.isList (x:=u) (by simpa using hu) fun h' st' sb=>?_
  have I1:Inv X pins σ H {s with heap:=h'}:=I.turned (t':=s.toks) (fun b o hb e=>(sb.2 b hb).trans e) f0 f1 f3 f4 f5
  obtain⟨o,e,c,d⟩:=id st'
  exact⟨u,rfl,B6 (s:={s with heap:=h'}) e c d (by decide) ⟨x,H,I1,ru,⟨rfl,fun ys hy=>by rw[I.BX hy hq];exact hx⟩,st',fun b hb=>(hf b hb).1⟩⟩
 done:=by
  intro X hP hw hK hc i pins s σ H E I hf st hg
  subst hP hw hK
  obtain⟨xs,hq,hx⟩:=hg
  obtain⟨its,rv,p,hz⟩:=I.list hq
  obtain⟨f0,f1,f2,f3,f4,f5⟩:=hf it (by simp)
  have hl:=rv.length
  exact wpAny_pyNext_list_end (I.ok.hd hc) st p.isList (by simp;omega) fun h' eb=>⟨rfl,I.turned (t':=s.toks) (fun b o hb e=>eb b o hb e) f0 f1 f3 f4 f5⟩
 self:=fun _ _ _ _ _ st h=>wpAny_pyIter_listiter st h
theorem Ml {P:Program} {w:World} {K:W.Frag} {tg:Expr} (it:Addr) (lo:Int) (n:Nat):Turn P w K tg (oX lo n) [it] it (fun i h=>IsRangeIter h it (lo+(i:Nat)*1) ((n:Int)-(i:Nat)) 1) where
 mem:=by simp
 obj:=fun i h st b hb=>by
  have e:b=it:=by simpa using hb
  subst e
  exact⟨_,st,fun v z=>by
   have z':Data.fields _=Data.cell v:=z
   cases z'⟩
 keep:=fun i h h' st k=>k it (by simp) _ st
 item:=by
  intro X hP hw hK hc i pins s σ H E I hf st hg
  subst hP hw hK
  obtain⟨f0,f1,f2,f3,f4,f5⟩:=hf it (by simp)
  have W:=Walks.range (prog:=X.prog) (w:=X.w) (I.ok.hd hc) it lo 1 n
  refine W.item i s _ _ hg st fun v h' tk hv st' kk=>?_
  obtain⟨t,rfl⟩:=hv
  have I1:Inv X pins σ H {s with heap:=h',toks:=tk}:=I.turned (fun b o hb e=>kk b o (by simpa using hb) e) f0 f1 f3 f4 f5
  refine⟨_,rfl,B6 (s:={s with heap:=h',toks:=tk}) (n:="range_iterator") st' rfl rfl (by decide) ⟨.int (lo+i),H,I1,⟨t,?_⟩,⟨rfl,rfl⟩,st',fun b hb=>(hf b hb).1⟩⟩
  rw[Int.mul_one]
 done:=by
  intro X hP hw hK hc i pins s σ H E I hf st hg
  subst hP hw hK
  obtain⟨f0,f1,f2,f3,f4,f5⟩:=hf it (by simp)
  exact wpAny_pyNext_range_end (I.ok.hd hc) st (by have:n≤i:=hg;omega) fun h' eb=>⟨rfl,I.turned (t':=s.toks) (fun b o hb e=>eb b o hb e) f0 f1 f3 f4 f5⟩
 self:=fun _ _ _ _ _ st h=>wpAny_pyIter_rangeiter st h
section
variable {X:Cx} {tg:Expr}
def FJ (K:W.Frag) (tl:TE):TI:=fun σ H R=>tl σ H fun x H1=>∃a,x= .ref a∧(∃xs,aJ K H1 a xs)∧R (nv K a) H1
theorem sH {l:Expr} {tl:TE} (hl:PE X l tl):PI X tg l (FJ X.K tl):=by
 intro pins s σ H R I h
 refine aV (hl pins s σ H _ I h) fun v s1 zq0=>?_
 obtain⟨x,H1,I1,r1,q1⟩:=zq0
 obtain⟨a,e,⟨xs,hq⟩,q⟩:=q1
 subst e
 cases r1
 obtain⟨its,rv,p,hz⟩:=I1.list hq
 refine wpAny_pyIter_list p.isList ?_
 refine⟨s1.heap.objs.size,[s1.heap.objs.size],_,_,H1,rfl,I1.kept (t':=s1.toks) fun b o e=>Heap.get?_push_of_some _ e,Mj a _,⟨_,Heap.get?_push_size _ rfl,rfl,rfl⟩,fun b hb=>?_,q⟩
 have e:b=s1.heap.objs.size:=by simpa using hb
 subst e
 exact I1.sG (Nat.le_refl _) (I1.hok.fresh (Nat.le_refl _))
theorem FL {pins:List (Addr×Obj)} {σ:St} {H:Hp} {s:Shared} {R:It→Hp→Prop} {E:Value→Shared→Prop} {lo hi:Int} {t u v:Tok} {tk:Nat} (I:Inv X pins σ H s) (h1: -(2^62)≤lo) (h2:lo<2^62) (h3: -(2^62)≤hi) (h4:hi<2^62)
  (q:R (oX lo (hi-lo).toNat) H):wpAny (model X.prog X.w) X.A (pyIter (.ref s.heap.objs.size)) (B5 X pins σ tg R) E {s with heap:=s.heap.push {cls:= .type "range",data:= .fields #[.int lo t,.int hi u,.int 1 v]},toks:=tk}:=by
 refine wpAny_pyIter_range (IsRange.new ..) (small_one h1 h2 h3 h4) ?_
 have I1:Inv X pins σ H {s with heap:=s.heap.push {cls:= .type "range",data:= .fields #[.int lo t,.int hi u,.int 1 v]},toks:=tk}:=I.kept fun b o e=>Heap.get?_push_of_some _ e
 refine⟨(s.heap.push {cls:= .type "range",data:= .fields #[.int lo t,.int hi u,.int 1 v]}).objs.size,[(s.heap.push {cls:= .type "range",data:= .fields #[.int lo t,.int hi u,.int 1 v]}).objs.size],_,_,H,rfl,
  I1.kept (t':=tk) fun b o e=>Heap.get?_push_of_some _ e,Ml _ lo (hi-lo).toNat,?_,fun b hb=>?_,q⟩
 ·have e1:lo+((0:Nat):Int)*1=lo:=by simp
  have e2:(((hi-lo).toNat:Nat):Int)-((0:Nat):Int)=Builtin.Range.rangeSize lo hi 1:=by rw[rangeSize_one];split<;>omega
  show IsRangeIter _ _ (lo+((0:Nat):Int)*1) ((((hi-lo).toNat:Nat):Int)-((0:Nat):Int)) 1
  rw[e1,e2]
  exact Heap.get?_push_size _ rfl
 ·have e:b=(s.heap.push {cls:= .type "range",data:= .fields #[.int lo t,.int hi u,.int 1 v]}).objs.size:=by simpa using hb
  subst e
  exact I1.sG (Nat.le_refl _) (I1.hok.fresh (Nat.le_refl _))
def Mm (ta:TA):TI:=fun σ H R=>ta σ H fun vs H1=>∃j:Int,vs=[.int j]∧ -(2^62)≤j∧j<2^62∧R (oX 0 j.toNat) H1
def Mn (ta:TA):TI:=fun σ H R=>ta σ H fun vs H1=>∃i j:Int,vs=[.int i,.int j]∧(-(2^62)≤i∧i<2^62∧ -(2^62)≤j∧j<2^62)∧R (oX i (j-i).toNat) H1
theorem qF {a:Expr} {ta:TA} {p pos:Pos} (hg:Gl X "range") (hm:X.mg "range"=none) (ha:PA X [a] ta) (hs:starEach [a] X.env=[(false,eval a X.env)]:=by rfl):PI X tg (.Call (.Name "range" p) [a] [] pos) (Mm ta):=by
 intro pins s σ H R I h
 refine Call_ (qB I hg hm boot_range (PyProof.Rows.callWith_type1 (aV (ha pos pins s σ H _ I h) fun us s1 ⟨vs,H1,I1,r1,q1⟩=>?_) hs rfl))
 obtain⟨j,e,q1,q2,q⟩:=q1
 subst e
 cases r1 with
 |cons r rr=>
  cases rr
  obtain⟨t,rfl⟩:=r
  exact call_range_1 (FL I1 (by omega) (by omega) q1 q2 (by simpa using q))
theorem Mp {a b:Expr} {ta:TA} {p pos:Pos} (hg:Gl X "range") (hm:X.mg "range"=none) (ha:PA X [a,b] ta) (hs:starEach [a,b] X.env=[(false,eval a X.env),(false,eval b X.env)]:=by rfl) (hs2:starEach [b] X.env=[(false,eval b X.env)]:=by rfl):
  PI X tg (.Call (.Name "range" p) [a,b] [] pos) (Mn ta):=by
 intro pins s σ H R I h
 refine Call_ (qB I hg hm boot_range (PyProof.Rows.callWith_type1 (aV (ha pos pins s σ H _ I h) fun us s1 ⟨vs,H1,I1,r1,q1⟩=>?_) (by rw[hs,hs2]) (by rw[hs2];rfl)))
 obtain⟨i,j,e,⟨q1,q2,q3,q4⟩,q⟩:=q1
 subst e
 cases r1 with
 |cons r rr=>
  cases rr with
  |cons r' rr=>
   cases rr
   obtain⟨t,rfl⟩:=r
   obtain⟨t',rfl⟩:=r'
   exact call_range_2 (FL I1 q1 q2 q3 q4 q)
def FN (wi:TI) (g:TG) (tb:TS):TS:=fun D σ H=>wi σ H fun J H1=>∃W:Nat→Nat→St→Hp→Prop,(∃m,W 0 m σ H1)∧∀i m σ H,W i m σ H→
 (J.stop i H∧D.nx σ H)∨(J.go i H∧∃N:St→Hp→Prop,(∀σ' H',N σ' H'→∃m',m'<m∧W (i+1) m' σ' H')∧∀x H',J.nt i H x H'→g x σ H' fun σ2 H2=>tb {D with nx:=N,ct:=N,bk:=D.nx} σ2 H2)
def sI (fp:List Addr) (h:Heap):List (Addr×Obj):=fp.filterMap fun b=>(h.get? b).map fun o=>(b,o)
theorem B7 {fp:List Addr} {h:Heap} {b:Addr} {o:Obj} (hb:b∈fp) (e:h.get? b=some o):(b,o)∈sI fp h:=List.mem_filterMap.mpr ⟨b,hb,by rw[e];rfl⟩
theorem Mq {fp:List Addr} {h:Heap} {p:Addr×Obj} (hp:p∈sI fp h):p.1∈fp∧h.get? p.1=some p.2:=by
 obtain⟨b,hb,e⟩:=List.mem_filterMap.mp hp
 cases q:h.get? b with
 |none=>rw[q]at e;cases e
 |some o=>
  rw[q]at e
  have e':(b,o)=p:=Option.some.inj e
  subst e'
  exact⟨hb,q⟩
theorem Inv.pinned {pins:List (Addr×Obj)} {σ:St} {H:Hp} {s:Shared} {fp:List Addr} (I:Inv X pins σ H s) (hf:∀b∈fp,i9 X pins H b) (ho:∀b∈fp,∃o,s.heap.get? b=some o∧∀v,o.data≠ .cell v):Inv X (pins++sI fp s.heap) σ H s:=
 I.Fo fun p hp=>(List.mem_append.mp hp).elim (fun z=>I.pin p (List.mem_append_right _ z)) fun z=>by
  obtain⟨hb,e⟩:=Mq z
  obtain⟨f0,f1,f2,_⟩:=hf p.1 hb
  obtain⟨o,e',d⟩:=ho p.1 hb
  rw[e]at e';cases e'
  exact⟨e,f0,f1,f2,d⟩
theorem Inv.vP {pins pl:List (Addr×Obj)} {σ:St} {H:Hp} {s:Shared} (I:Inv X (pins++pl) σ H s):Inv X pins σ H s:=I.Fo fun p hp=>I.pin p (List.mem_append_right _ (List.mem_append_left _ hp))
theorem kL {iter:Expr} {body:List Stmt} {wi:TI} {g:TG} {tb:TS} {pos:Pos} (hp:PassesOwn (model X.prog X.w) X.A X.env X.xe) (hc:X.calm=true) (hi:PI X tg iter wi) (hg:PG X tg g) (hb:gc X body tb)
  (hs:∀x,foldedSetIterable iter X.env x=pure x:=by intro _;rfl):PS X (.For tg iter body [] pos) (FN wi g tb):=by
 intro pins s σ H D I h
 refine wpAny_For (aV (hi pins s σ H _ I h) fun v s1 h1=>aV h1 fun itv s2 h2=>?_) hs
 obtain⟨it,fp,tn,J,H2,e,I2,T,st2,f2,W,⟨m0,w0⟩,turn⟩:=h2
 subst e
 have oY:∀{H':Hp},(∀b∈fp,H' b=none)→∀b∈fp,i9 X pins H' b:=fun hn b hb=>⟨hn b hb,(f2 b hb).2⟩
 refine codeAny_forLoop_any (fun n s'=>∃i σ' H',Inv X pins σ' H' s'∧tn i s'.heap∧(∀b∈fp,H' b=none)∧W i n σ' H') ?_ m0 ⟨0,σ,H2,I2,st2,fun b hb=>(f2 b hb).1,w0⟩
 rintro n s3 ⟨i,σ3,H3,I3,st3,FO,w3⟩
 rcases turn i n σ3 H3 w3 with⟨stop,qn⟩|⟨go,N,hN,step⟩
 ·refine wpAny_passesOwn hp (aV (T.done X rfl rfl rfl hc i pins s3 σ3 H3 X.xe I3 (oY FO) st3 stop) fun r s4 zq0=>?_)
  obtain⟨hr,I4⟩:=zq0
  subst hr
  exact wpAny_execs_nil ⟨σ3,H3,I4,qn⟩
 ·refine wpAny_passesOwn hp (aV (T.item X rfl rfl rfl hc i pins s3 σ3 H3 X.xe I3 (oY FO) st3 go) fun r s4 zq0=>?_)
  obtain⟨u,hr,h4⟩:=zq0
  subst hr
  refine wpAny_passesOwn hp (aV h4 fun _ s5 zq0=>?_)
  obtain⟨x,H5,I5,r5,y5,qG,Mr⟩:=zq0
  have Ms:=I5.pinned (oY Mr) (T.obj _ _ qG)
  refine wpAny_passesOwn hp (aV (hg _ s5 σ3 H5 x u _ Ms r5 (step x H5 y5)) fun _ s6 zq0=>?_)
  obtain⟨σ6,H6,I6,q6⟩:=zq0
  refine wpAny_passesOwn hp (aV (hb _ s6 σ6 H6 _ I6 q6) fun f s7 q7=>?_)
  have again:∀{σ7:St} {H7:Hp},Inv X (pins++sI fp s5.heap) σ7 H7 s7→N σ7 H7→∃m,m<n∧∃i σ' H',Inv X pins σ' H' s7∧tn i s7.heap∧(∀b∈fp,H' b=none)∧W i m σ' H':=fun{σ7 H7} I7 n7=>by
   obtain⟨m',hm,w7⟩:=hN σ7 H7 n7
   refine⟨m',hm,i+1,σ7,H7,I7.vP,T.keep _ _ _ qG fun b hb o e=>(I7.pin (b,o) (List.mem_append_right _ (List.mem_append_right _ (B7 hb e)))).1,fun b hb=>?_,w7⟩
   obtain⟨o,e,d⟩:=T.obj _ _ qG b hb
   exact(I7.pin (b,o) (List.mem_append_right _ (List.mem_append_right _ (B7 hb e)))).2.1
  cases f with
  |next=>obtain⟨σ7,H7,I7,n7⟩:=q7;exact again I7 n7
  |cont=>obtain⟨σ7,H7,I7,n7⟩:=q7;exact again I7 n7
  |brk=>obtain⟨σ7,H7,I7,q7⟩:=q7;exact⟨σ7,H7,I7.vP,q7⟩
  |ret v=>obtain⟨x7,σ7,H7,I7,r7,q7⟩:=q7;exact⟨x7,σ7,H7,I7.vP,r7,q7⟩
end
theorem B9 {K:W.Frag} {a:Addr} {xs:List V} {g:TG} {tb:TS} {D:Ends} {σ:St} {H:Hp} (Pv:Nat→St→Hp→Prop) (h0:Pv 0 σ H) (hl:∀i σ H,i≤xs.length→Pv i σ H→aJ K H a xs)
  (hs:∀i x σ H,xs[i]? =some x→Pv i σ H→g x σ H fun σ2 H2=>tb {D with nx:=Pv (i+1),ct:=Pv (i+1),bk:=D.nx} σ2 H2) (hd:∀σ H,Pv xs.length σ H→D.nx σ H):
  ∃W:Nat→Nat→St→Hp→Prop,(∃m,W 0 m σ H)∧∀i m σ H,W i m σ H→
   ((nv K a).stop i H∧D.nx σ H)∨((nv K a).go i H∧∃N:St→Hp→Prop,(∀σ' H',N σ' H'→∃m',m'<m∧W (i+1) m' σ' H')∧∀x H',(nv K a).nt i H x H'→g x σ H' fun σ2 H2=>tb {D with nx:=N,ct:=N,bk:=D.nx} σ2 H2):=by
 refine⟨fun i m σ H=>m=xs.length-i∧i≤xs.length∧Pv i σ H,⟨xs.length,by simp,Nat.zero_le _,h0⟩,?_⟩
 rintro i m σ H ⟨rfl,hi,p⟩
 have q:=hl i σ H hi p
 by_cases hlt:i<xs.length
 ·refine .inr ⟨⟨xs,xs[i],q,by simp[hlt]⟩,Pv (i+1),fun σ' H' p'=>⟨xs.length-(i+1),by omega,rfl,hlt,p'⟩,fun x H' y=>?_⟩
  obtain⟨e,y⟩:=y
  subst e
  exact hs i x σ _ (y xs q) p
 ·have e:i=xs.length:=by omega
  subst e
  exact .inl ⟨⟨xs,q,Nat.le_refl _⟩,hd σ H p⟩
theorem oZ {lo:Int} {n:Nat} {g:TG} {tb:TS} {D:Ends} {σ:St} {H:Hp} (Pv:Nat→St→Hp→Prop) (h0:Pv 0 σ H)
  (hs:∀i σ H,i<n→Pv i σ H→g (.int (lo+i)) σ H fun σ2 H2=>tb {D with nx:=Pv (i+1),ct:=Pv (i+1),bk:=D.nx} σ2 H2) (hd:∀σ H,Pv n σ H→D.nx σ H):
  ∃W:Nat→Nat→St→Hp→Prop,(∃m,W 0 m σ H)∧∀i m σ H,W i m σ H→
   ((oX lo n).stop i H∧D.nx σ H)∨((oX lo n).go i H∧∃N:St→Hp→Prop,(∀σ' H',N σ' H'→∃m',m'<m∧W (i+1) m' σ' H')∧∀x H',(oX lo n).nt i H x H'→g x σ H' fun σ2 H2=>tb {D with nx:=N,ct:=N,bk:=D.nx} σ2 H2):=by
 refine⟨fun i m σ H=>m=n-i∧i≤n∧Pv i σ H,⟨n,by simp,Nat.zero_le _,h0⟩,?_⟩
 rintro i m σ H ⟨rfl,hi,p⟩
 by_cases hlt:i<n
 ·refine .inr ⟨hlt,Pv (i+1),fun σ' H' p'=>⟨n-(i+1),by omega,rfl,hlt,p'⟩,fun x H' y=>?_⟩
  obtain⟨e,y⟩:=y
  subst e y
  exact hs i σ _ hlt p
 ·have e:i=n:=by omega
  subst e
  exact .inl ⟨Nat.le_refl _,hd σ H p⟩
abbrev R2:=V→V→Hp→VK→Prop
def cG (X:Cx) (f:Value→Value→Sem Value) (r:R2):Prop:=
 ∀(pins:List (Addr×Obj)) (s:Shared) (σ:St) (H:Hp) (x y:V) (v u:Value) (Q:VK),Inv X pins σ H s→RelV x v→RelV y u→r x y H Q→
  wpAny (model X.prog X.w) X.A (f v u) (EP X pins σ Q) X.xe s
def Ca (X:Cx) (f:Value→Sem Value) (r:V→Hp→VK→Prop):Prop:=
 ∀(pins:List (Addr×Obj)) (s:Shared) (σ:St) (H:Hp) (x:V) (v:Value) (Q:VK),Inv X pins σ H s→RelV x v→r x H Q→
  wpAny (model X.prog X.w) X.A (f v) (EP X pins σ Q) X.xe s
def kM (X:Cx) (f:Value) (r:List V→Hp→VK→Prop):Prop:=
 ∀(pins:List (Addr×Obj)) (s:Shared) (σ:St) (H:Hp) (xs:List V) (us:List Value) (Q:VK),Inv X pins σ H s→Vals xs us→r xs H Q→
  wpAny (model X.prog X.w) X.A (call f us) (EP X pins σ Q) X.xe s
def Mt (X:Cx) (r:V→Hp→(Bool→Hp→Prop)→Prop):Prop:=
 ∀(pins:List (Addr×Obj)) (s:Shared) (σ:St) (H:Hp) (x:V) (v:Value) (Q:Bool→Hp→Prop),Inv X pins σ H s→RelV x v→r x H Q→
  wpAny (model X.prog X.w) X.A (truthy v) (TP X pins σ Q) X.xe s
def dX (r:R2) (ta tb:TE):TE:=fun σ H Q=>ta σ H fun x H1=>tb σ H1 fun y H2=>r x y H2 Q
def Mu (r:V→Hp→VK→Prop) (ta:TE):TE:=fun σ H Q=>ta σ H fun x H1=>r x H1 Q
def rI (C:Int→Int→Prop) (g:Int→Int→V):R2:=fun x y H Q=>X3 (fun i=>x= .int i) (fun j=>y= .int j) fun i j=>C i j∧Q (g i j) H
def fE (g:Int→Int→V):R2:=fun x y H Q=>X3 (fun i=>x= .int i) (fun j=>y= .int j) fun i j=>Q (g i j) H
def rU (g:Int→V):V→Hp→VK→Prop:=fun x H Q=>∃i,x= .int i∧Q (g i) H
section
variable {X:Cx} {a b c:Expr} {ta tb tc:TE} {pos:Pos}
theorem vQ (ha:PE X a ta) (hb:PE X b tb) {pins:List (Addr×Obj)} {s:Shared} {σ:St} {H:Hp} {R:V→V→Hp→Prop} (I:Inv X pins σ H s)
  (h:ta σ H fun x H1=>tb σ H1 fun y H2=>R x y H2) {Q:Value→Shared→Prop} {f:Value→Value→Sem Value}
  (hf:∀v u s2 x y H2,Inv X pins σ H2 s2→RelV x v→RelV y u→R x y H2→wpAny (model X.prog X.w) X.A (f v u) Q X.xe s2):
  wpAny (model X.prog X.w) X.A (eval a X.env) (fun v s₁=>wpAny (model X.prog X.w) X.A (eval b X.env) (fun u s₂=>wpAny (model X.prog X.w) X.A (f v u) Q X.xe s₂) X.xe s₁) X.xe s:=by
 refine aV (ha pins s σ H _ I h) fun v s1 zq0=>?_
 obtain⟨x,H1,I1,r1,q1⟩:=zq0
 refine aV (hb pins s1 σ H1 _ I1 q1) fun u s2 zq0=>?_
 obtain⟨y,H2,I2,r2,q2⟩:=zq0
 exact hf v u s2 x y H2 I2 r1 r2 q2
theorem aF {op:Operator} {r:R2} (ho:cG X (binaryOp op) r) (ha:PE X a ta) (hb:PE X b tb):PE X (.BinOp a op b pos) (dX r ta tb):=by
 intro pins s σ H Q I h
 exact wpAny_BinOp (vQ ha hb I h fun v u s2 x y H2 I2 rx ry q=>ho pins s2 σ H2 x y v u Q I2 rx ry q)
theorem gM {op:UnaryOp} {r:V→Hp→VK→Prop} (ho:Ca X (unaryOp op) r) (ha:PE X a ta):PE X (.UnaryOp op a pos) (Mu r ta):=by
 intro pins s σ H Q I h
 exact UnaryOp_ (aV (ha pins s σ H _ I h) fun v s1 ⟨x,H1,I1,r1,q1⟩=>ho pins s1 σ H1 x v Q I1 r1 q1)
theorem sJ {f:Value→Value→Sem Value} {C:Int→Int→Prop} {g:Int→Int→Int}
  (rule:∀(i j:Int) (t u:Tok) (s:Shared) (Q:Value→Shared→Prop) (E:Value→Shared→Prop),C i j→Q (.int (g i j) s.toks) {s with toks:=s.toks+1}→wpAny (model X.prog X.w) X.A (f (.int i t) (.int j u)) Q E s):
  cG X f (rI C fun i j=> .int (g i j)):=by
 intro pins s σ H x y v u Q I rx ry h
 obtain⟨i,j,rfl,rfl,hc,q⟩:=h
 obtain⟨t,rfl⟩:=rx
 obtain⟨t',rfl⟩:=ry
 exact rule i j t t' s _ _ hc ⟨.int (g i j),H,I.tok _,⟨_,rfl⟩,q⟩
theorem sL {f:Value→Value→Sem Value} {g:Int→Int→Int}
  (rule:∀(i j:Int) (t u:Tok) (s:Shared) (Q:Value→Shared→Prop) (E:Value→Shared→Prop),Q (.int (g i j) s.toks) {s with toks:=s.toks+1}→wpAny (model X.prog X.w) X.A (f (.int i t) (.int j u)) Q E s):
  cG X f (fE fun i j=> .int (g i j)):=by
 intro pins s σ H x y v u Q I rx ry h
 obtain⟨i,j,rfl,rfl,q⟩:=h
 obtain⟨t,rfl⟩:=rx
 obtain⟨t',rfl⟩:=ry
 exact rule i j t t' s _ _ ⟨.int (g i j),H,I.tok _,⟨_,rfl⟩,q⟩
theorem vR {f:Value→Value→Sem Value} {g:Int→Int→Bool}
  (rule:∀(i j:Int) (t u:Tok) (s:Shared) (Q:Value→Shared→Prop) (E:Value→Shared→Prop),Q (.bool (g i j)) s→wpAny (model X.prog X.w) X.A (f (.int i t) (.int j u)) Q E s):
  cG X f (fE fun i j=> .bl (g i j)):=by
 intro pins s σ H x y v u Q I rx ry h
 obtain⟨i,j,rfl,rfl,q⟩:=h
 obtain⟨t,rfl⟩:=rx
 obtain⟨t',rfl⟩:=ry
 exact rule i j t t' s _ _ ⟨.bl (g i j),H,I,rfl,q⟩
def Mv (i j:Int):Prop:=0≤j∧j≤1000000∧i.natAbs<2^64
def qH (i j:Int):Prop:=(-(2^64)<i∧i<2^64)∨(-(2^64)<j∧j<2^64)
theorem qH.ok {i j:Int} (h:qH i j):IntMulOk i j:=by
 rcases h with⟨h1,h2⟩|⟨h1,h2⟩
 ·exact .of_left (intBits_le_64 h1 h2)
 ·exact .of_right (intBits_le_64 h1 h2)
theorem Mw (k:Nat):(0:Int)≤2^k:=by
 rw[two_pow_cast]
 exact Int.natCast_nonneg _
theorem bL:cG X (binaryOp .Add) (fE fun i j=> .int (i+j)):=sL fun _ _ _ _ _ _ _ q=>add_int q
theorem fF:cG X (binaryOp .Sub) (fE fun i j=> .int (i-j)):=sL fun _ _ _ _ _ _ _ q=>sub_int q
theorem iF:cG X (binaryOp .Mult) (rI qH fun i j=> .int (i*j)):=sJ fun _ _ _ _ _ _ _ hc q=>mul_int q hc.ok
theorem g9:cG X (binaryOp .Mod) (rI (fun _ j=>0<j) fun i j=> .int (i%j)):=sJ fun i j _ _ _ _ _ hc q=>by
 have h1:(0:Int)<j:=hc
 exact mod_int' (by omega) (by rw[Int.fmod_eq_emod_of_nonneg i (by omega)];exact q)
theorem jb:cG X (binaryOp .LShift) (rI Mv fun i j=> .int (i*2^j.toNat)):=sJ fun _ _ _ _ _ _ _ hc q=>lshift_int_small hc.1 hc.2.1 hc.2.2 q
theorem lK:cG X (binaryOp .RShift) (rI (fun _ j=>0≤j) fun i j=> .int (i/2^j.toNat)):=sJ fun i j _ _ _ _ _ hc q=>
 rshift_int hc (by rw[Int.fdiv_eq_ediv_of_nonneg i (Mw _)];exact q)
theorem cT:cG X (binaryOp .BitAnd) (fE fun i j=> .int (Builtin.bitAnd i j)):=sL fun _ _ _ _ _ _ _ q=>and_int q
theorem vS:cG X (binaryOp .BitOr) (fE fun i j=> .int (Builtin.bitOr i j)):=sL fun _ _ _ _ _ _ _ q=>or_int q
theorem FP:cG X (binaryOp .BitXor) (fE fun i j=> .int (Builtin.bitXor i j)):=sL fun _ _ _ _ _ _ _ q=>xor_int q
theorem Mx {f:Value→Sem Value} {g:Int→Int}
  (rule:∀(i:Int) (t:Tok) (s:Shared) (Q:Value→Shared→Prop) (E:Value→Shared→Prop),Q (.int (g i) s.toks) {s with toks:=s.toks+1}→wpAny (model X.prog X.w) X.A (f (.int i t)) Q E s):
  Ca X f (rU fun i=> .int (g i)):=by
 intro pins s σ H x v Q I rx h
 obtain⟨i,rfl,q⟩:=h
 obtain⟨t,rfl⟩:=rx
 exact rule i t s _ _ ⟨.int (g i),H,I.tok _,⟨_,rfl⟩,q⟩
theorem gO:Ca X (unaryOp .USub) (rU fun i=> .int (-i)):=Mx fun _ _ _ _ _ q=>neg_int q
end
def FQ:V→V→Bool
 | .aK,.aK=>true| .aK,.int _=>true| .int _,.aK=>true| .aK,.bl _=>true| .bl _,.aK=>true| .aK,.str _=>true| .str _,.aK=>true
 | .int _,.int _=>true| .bl _,.bl _=>true| .str _,.str _=>true| .fP _,.fP _=>true
 | .int _,.str _=>true| .str _,.int _=>true| .bl _,.str _=>true| .str _,.bl _=>true
 |_,_=>false
def Mz:R2:=fun x y H Q=>FQ x y=true∧Q (.bl (decide (x=y))) H
def MA:R2:=fun x y H Q=>FQ x y=true∧Q (.bl (!decide (x=y))) H
theorem FT {i j:Int}:decide (V.int i=V.int j)=(i==j):=by
 rw[Bool.eq_iff_iff]
 simp
theorem FU {i j:Bool}:decide (V.bl i=V.bl j)=(i==j):=by
 rw[Bool.eq_iff_iff]
 simp
theorem FW {i j:Str}:decide (V.str i=V.str j)=(i==j):=by
 rw[Bool.eq_iff_iff]
 simp
theorem FY {i j:Array UInt8}:decide (V.fP i=V.fP j)=(i.toList==j.toList):=by
 rw[Bool.eq_iff_iff]
 cases i
 cases j
 simp
section
variable {X:Cx} {a b c:Expr} {ta tb tc:TE} {pos:Pos}
theorem cJ {pins:List (Addr×Obj)} {σ:St} {H:Hp} {s:Shared} {Q:VK} {k k':Bool} (I:Inv X pins σ H s) (q:Q (.bl k) H) (e:k=k'):EP X pins σ Q (.bool k') s:=by
 subst e
 exact⟨.bl k,H,I,rfl,q⟩
theorem jI:cG X (compareOp .Eq) Mz:=by
 intro pins s σ H x y v u Q I rx ry h
 obtain⟨hs,q⟩:=h
 cases x with
 |aK=>
  cases rx
  cases y with
  |aK=>cases ry;exact PySem.EqNone.eq_none_none (cJ I q (by simp))
  |bl j=>cases ry;exact PySem.EqNone.eq_none_bool (cJ I q (by simp))
  |int j=>obtain⟨t',rfl⟩:=ry;exact PySem.EqNone.eq_none_int (cJ I q (by simp))
  |str j=>obtain⟨t',rfl⟩:=ry;exact PySem.EqNone.eq_none_str (cJ I q (by simp))
  |_=>exact absurd (show false=true from hs) Bool.false_ne_true
 |bl i=>
  cases rx
  cases y with
  |aK=>cases ry;exact PySem.EqNone.eq_bool_none (cJ I q (by simp))
  |bl j=>cases ry;exact eq_bool (cJ I q FU)
  |str j=>obtain⟨t',rfl⟩:=ry;exact PySem.EqMixed.eq_bool_str (cJ I q (by simp))
  |_=>exact absurd (show false=true from hs) Bool.false_ne_true
 |int i=>
  obtain⟨t,rfl⟩:=rx
  cases y with
  |aK=>cases ry;exact PySem.EqNone.eq_int_none (cJ I q (by simp))
  |int j=>obtain⟨t',rfl⟩:=ry;exact eq_int (cJ I q FT)
  |str j=>obtain⟨t',rfl⟩:=ry;exact PySem.EqMixed.eq_int_str (cJ I q (by simp))
  |_=>exact absurd (show false=true from hs) Bool.false_ne_true
 |str i=>
  obtain⟨t,rfl⟩:=rx
  cases y with
  |aK=>cases ry;exact PySem.EqNone.eq_str_none (cJ I q (by simp))
  |bl j=>cases ry;exact PySem.EqMixed.eq_str_bool (cJ I q (by simp))
  |int j=>obtain⟨t',rfl⟩:=ry;exact PySem.EqMixed.eq_str_int (cJ I q (by simp))
  |str j=>obtain⟨t',rfl⟩:=ry;exact eq_str (cJ I q FW)
  |_=>exact absurd (show false=true from hs) Bool.false_ne_true
 |fP i=>
  obtain⟨t,rfl⟩:=rx
  cases y with
  |fP j=>obtain⟨t',rfl⟩:=ry;exact W.eq_bytes (cJ I q FY)
  |_=>exact absurd (show false=true from hs) Bool.false_ne_true
 |_=>cases y<;>exact absurd (show false=true from hs) Bool.false_ne_true
theorem MB:cG X (compareOp .NotEq) MA:=by
 intro pins s σ H x y v u Q I rx ry h
 obtain⟨hs,q⟩:=h
 cases x with
 |aK=>
  cases rx
  cases y with
  |aK=>cases ry;exact PySem.EqNone.ne_none_none (cJ I q (by simp))
  |bl j=>cases ry;exact PySem.EqNone.ne_none_bool (cJ I q (by simp))
  |int j=>obtain⟨t',rfl⟩:=ry;exact PySem.EqNone.ne_none_int (cJ I q (by simp))
  |str j=>obtain⟨t',rfl⟩:=ry;exact PySem.EqNone.ne_none_str (cJ I q (by simp))
  |_=>exact absurd (show false=true from hs) Bool.false_ne_true
 |bl i=>
  cases rx
  cases y with
  |aK=>cases ry;exact PySem.EqNone.ne_bool_none (cJ I q (by simp))
  |bl j=>cases ry;exact ne_bool (cJ I q (congrArg not FU))
  |str j=>obtain⟨t',rfl⟩:=ry;exact PySem.EqMixed.ne_bool_str (cJ I q (by simp))
  |_=>exact absurd (show false=true from hs) Bool.false_ne_true
 |int i=>
  obtain⟨t,rfl⟩:=rx
  cases y with
  |aK=>cases ry;exact PySem.EqNone.ne_int_none (cJ I q (by simp))
  |int j=>obtain⟨t',rfl⟩:=ry;exact ne_int (cJ I q (congrArg not FT))
  |str j=>obtain⟨t',rfl⟩:=ry;exact PySem.EqMixed.ne_int_str (cJ I q (by simp))
  |_=>exact absurd (show false=true from hs) Bool.false_ne_true
 |str i=>
  obtain⟨t,rfl⟩:=rx
  cases y with
  |aK=>cases ry;exact PySem.EqNone.ne_str_none (cJ I q (by simp))
  |bl j=>cases ry;exact PySem.EqMixed.ne_str_bool (cJ I q (by simp))
  |int j=>obtain⟨t',rfl⟩:=ry;exact PySem.EqMixed.ne_str_int (cJ I q (by simp))
  |str j=>obtain⟨t',rfl⟩:=ry;exact ne_str (cJ I q (congrArg not FW))
  |_=>exact absurd (show false=true from hs) Bool.false_ne_true
 |fP i=>
  obtain⟨t,rfl⟩:=rx
  cases y with
  |fP j=>obtain⟨t',rfl⟩:=ry;exact W.ne_bytes (cJ I q (congrArg not FY))
  |_=>exact absurd (show false=true from hs) Bool.false_ne_true
 |_=>cases y<;>exact absurd (show false=true from hs) Bool.false_ne_true
theorem iG:cG X (compareOp .Lt) (fE fun i j=> .bl (decide (i<j))):=vR fun _ _ _ _ _ _ _ q=>lt_int q
theorem dD:cG X (compareOp .LtE) (fE fun i j=> .bl (decide (i≤j))):=vR fun _ _ _ _ _ _ _ q=>le_int q
theorem ny:cG X (compareOp .Gt) (fE fun i j=> .bl (decide (j<i))):=vR fun _ _ _ _ _ _ _ q=>gt_int q
theorem vU:cG X (compareOp .GtE) (fE fun i j=> .bl (decide (j≤i))):=vR fun _ _ _ _ _ _ _ q=>ge_int q
theorem iH:cG X (compareOp .Is) (fun x y H Q=>y= .aK∧Q (.bl (decide (x= .aK))) H):=by
 intro pins s σ H x y v u Q I rx ry h
 obtain⟨rfl,q⟩:=h
 cases ry
 refine is_none_gen (cJ I q ?_)
 cases x<;>first
  |(cases rx;rfl)
  |(obtain⟨t,rfl⟩:=rx;rfl)
theorem MC:cG X (compareOp .IsNot) (fun x y H Q=>y= .aK∧Q (.bl (!decide (x= .aK))) H):=by
 intro pins s σ H x y v u Q I rx ry h
 obtain⟨rfl,q⟩:=h
 cases ry
 refine isnot_none_gen (cJ I q ?_)
 cases x<;>first
  |(cases rx;rfl)
  |(obtain⟨t,rfl⟩:=rx;rfl)
theorem bz (b:Expr) {op:CmpOp} (h:op≠ .In:=by decide) (h2:op≠ .NotIn:=by decide):behindInMarks op b=false:=by
 have e1:(op==CmpOp.In)=false:=by cases op<;>first|rfl|exact absurd rfl h
 have e2:(op==CmpOp.NotIn)=false:=by cases op<;>first|rfl|exact absurd rfl h2
 cases b<;>simp[behindInMarks,e1,e2]
theorem c6 {op:CmpOp} {r:R2} (ho:cG X (compareOp op) r) (ha:PE X a ta) (hb:PE X b tb) (hm:behindInMarks op b=false):PE X (.Compare a [op] [b] pos) (dX r ta tb):=by
 intro pins s σ H Q I h
 exact wpAny_Compare1 (vQ ha hb I h fun v u s2 x y H2 I2 rx ry q=>ho pins s2 σ H2 x y v u Q I2 rx ry q) hm
def FZ (t:TE):TT:=fun σ H Q=>t σ H fun x H'=>X2 (fun k=>x= .bl k) fun k=>Q k H'
theorem bY {op:CmpOp} {r:R2} (ho:cG X (compareOp op) r) (ha:PE X a ta) (hb:PE X b tb) (hm:behindInMarks op b=false):PT X (.Compare a [op] [b] pos) (FZ (dX r ta tb)):=by
 intro pins s σ H Q I h
 refine wpAny_isTrue_Compare1 (aV (ha pins s σ H _ I h) fun v s1 ⟨x,H1,I1,r1,q1⟩=>aV (hb pins s1 σ H1 _ I1 q1) fun u s2 ⟨y,H2,I2,r2,q2⟩=>
  aV (ho pins s2 σ H2 x y v u _ I2 r1 r2 q2) fun c s3 ⟨z,H3,I3,r3,k,e,q3⟩=>?_) hm
 subst e
 cases r3
 exact wpAny_truthy_bool ⟨H3,I3,q3⟩
def F0 (r r':R2) (ta tb tc:TE):TE:=fun σ H Q=>ta σ H fun x H1=>tb σ H1 fun y H2=>r x y H2 fun z H3=>∃k,z= .bl k∧
 (if k=true then tc σ H3 fun w' H4=>r' y w' H4 Q else Q (.bl false) H3)
theorem Cb {op op':CmpOp} {r r':R2} (ho:cG X (compareOp op) r) (ho':cG X (compareOp op') r') (ha:PE X a ta) (hb:PE X b tb) (hc:PE X c tc)
  (hm:lastMarks [op,op'] [b,c]=false:=by with_unfolding_all rfl):PE X (.Compare a [op,op'] [b,c] pos) (F0 r r' ta tb tc):=by
 intro pins s σ H Q I h
 refine Compare_chain (aV (ha pins s σ H _ I h) fun v s1 ⟨x,H1,I1,r1,q1⟩=>chain_link (aV (hb pins s1 σ H1 _ I1 q1) fun u s2 ⟨y,H2,I2,r2,q2⟩=>
  aV (ho pins s2 σ H2 x y v u _ I2 r1 r2 q2) fun d s3 ⟨z,H3,I3,r3,k,e,q3⟩=>?_)) hm
 subst e
 cases r3
 refine wpAny_truthy_bool ?_
 cases k with
 |false=>exact ite_ff ⟨.bl false,H3,I3,rfl,q3⟩
 |true=>exact ite_tt (chain_last (aV (hc pins s3 σ H3 _ I3 q3) fun w' s4 ⟨z',H4,I4,r4,q4⟩=>ho' pins s4 σ H4 y z' u w' Q I4 r2 r4 q4))
theorem sM {op op':CmpOp} {r r':R2} (ho:cG X (compareOp op) r) (ho':cG X (compareOp op') r') (ha:PE X a ta) (hb:PE X b tb) (hc:PE X c tc)
  (hm:lastMarks [op,op'] [b,c]=false:=by with_unfolding_all rfl):PT X (.Compare a [op,op'] [b,c] pos) (FZ (F0 r r' ta tb tc)):=by
 intro pins s σ H Q I h
 refine isTrue_chain (aV (ha pins s σ H _ I h) fun v s1 ⟨x,H1,I1,r1,q1⟩=>test_link (aV (hb pins s1 σ H1 _ I1 q1) fun u s2 ⟨y,H2,I2,r2,q2⟩=>
  aV (ho pins s2 σ H2 x y v u _ I2 r1 r2 q2) fun d s3 ⟨z,H3,I3,r3,k,e,q3⟩=>?_)) hm
 subst e
 cases r3
 refine wpAny_truthy_bool ?_
 cases k with
 |false=>
  obtain⟨k',e',q'⟩:=q3
  cases e'
  exact ite_ff ⟨H3,I3,q'⟩
 |true=>
  refine ite_tt (test_last (aV (hc pins s3 σ H3 _ I3 q3) fun w' s4 ⟨z',H4,I4,r4,q4⟩=>aV (ho' pins s4 σ H4 y z' u w' _ I4 r2 r4 q4) fun d' s5 zq0=>?_))
  obtain⟨z2,H5,I5,r5,k2,e2,q5⟩:=zq0
  subst e2
  cases r5
  exact wpAny_truthy_bool ⟨H5,I5,q5⟩
def jJ (K:W.Frag) (x:V) (H:Hp) (k:Bool):Prop:=
 match x with
 | .aK=>k=false
 | .bl b=>k=b
 | .int i=>k=(i != 0)
 | .str y=>y.length≤sizeLine∧k=((y.length:Int) != 0)
 | .fP y=>y.size≤sizeLine∧k=((y.size:Int) != 0)
 | .ref p=>(∃xs,aJ K H p xs∧k= !xs.isEmpty)∨(∃xs,cI K H p xs∧k= !xs.isEmpty)∨∃kvs,H p=some (.dK kvs)∧k= !kvs.isEmpty
 |_=>False
theorem MD {κ:Type} {kvs:List (κ×V)} {vs:List (κ×Value)} (r:KV kvs vs):(!vs.isEmpty)= !kvs.isEmpty:=by
 cases r<;>rfl
theorem F1 {xs:List V} {its:List Value} (r:Vals xs its):(!its.toArray.isEmpty)= !xs.isEmpty:=by
 cases r<;>simp
theorem sN:(sizeLine:Nat)<2^63:=by rw[sizeLine_eq];decide
theorem ME:Mt X (fun x H Q=>∃k,jJ X.K x H k∧Q k H):=by
 intro pins s σ H x v Q I rx h
 obtain⟨k,e,q⟩:=h
 have hl:=sN
 have hs:sizeLine=16777216:=sizeLine_eq
 cases x with
 |aK=>
  cases rx
  have e':k=false:=e
  subst e'
  exact truthy_none ⟨H,I,q⟩
 |bl b=>
  cases rx
  have e':k=b:=e
  subst e'
  exact wpAny_truthy_bool ⟨H,I,q⟩
 |int i=>
  obtain⟨t,rfl⟩:=rx
  have e':k=(i != 0):=e
  subst e'
  exact PySem.P.truthy_int ⟨H,I,q⟩
 |str y=>
  obtain⟨t,rfl⟩:=rx
  obtain⟨hy,e'⟩:y.length≤sizeLine∧k=((y.length:Int) != 0):=e
  subst e'
  exact PySem.P.truthy_str (by omega) ⟨H,I.tok _,q⟩
 |fP y=>
  obtain⟨t,rfl⟩:=rx
  obtain⟨hy,e'⟩:y.size≤sizeLine∧k=((y.size:Int) != 0):=e
  subst e'
  exact W.truthy_bytes (by omega) ⟨H,I.tok _,q⟩
 |ref p=>
  cases rx
  have e':(∃xs,aJ X.K H p xs∧k= !xs.isEmpty)∨(∃xs,cI X.K H p xs∧k= !xs.isEmpty)∨∃kvs,H p=some (.dK kvs)∧k= !kvs.isEmpty:=e
  rcases e' with⟨xs,hx,e'⟩|⟨xs,hx,e'⟩|⟨kvs,hx,e'⟩
  ·subst e'
   obtain⟨its,r,pl,hz⟩:=I.list hx
   have hlen:=r.length
   exact wpAny_truthy_list pl.isList (by simp only[List.size_toArray];omega) ⟨H,I.tok _,by rw[F1 r];exact q⟩
  ·subst e'
   obtain⟨its,r,pl,hz⟩:=I.tuple hx
   have hlen:=r.length
   exact truthy_tuple pl (by simp only[List.size_toArray];omega) ⟨H,I.tok _,by rw[F1 r];exact q⟩
  ·subst e'
   obtain⟨hz,hS,vs,r,m⟩:kvs.length≤sizeLine∧(p==sysModules)=false∧∃vs,KV kvs vs∧s.heap.DictOf (i6 X.prog X.w) p vs:=I.hok p _ hx
   have hlen:kvs.length=vs.length:=Paired.length r
   exact wpAny_truthy_dict hS m (by omega) ⟨H,I.tok _,by rw[MD r];exact q⟩
 |_=>exact(show False from e).elim
theorem bI (ha:PE X a ta) (he:∀whole,isTrue a X.env whole=(do let v ←whole;standAt a.pos;holding [v] (truthy v))):
  PT X a (fun σ H Q=>ta σ H fun x H'=>∃k,jJ X.K x H' k∧Q k H'):=by
 intro pins s σ H Q I h
 exact isTrue_plain (aV (ha pins s σ H _ I h) fun v s1 ⟨x,H1,I1,r1,q1⟩=>ME pins s1 σ H1 x v Q I1 r1 q1) (he _)
theorem vals1 {x:V} {us:List Value} (r:Vals [x] us):∃u,us=[u]∧RelV x u:=by
 cases r with
 |cons r1 r2=>cases r2;exact⟨_,rfl,r1⟩
theorem vals2 {x y:V} {us:List Value} (r:Vals [x,y] us):∃u w',us=[u,w']∧RelV x u∧RelV y w':=by
 cases r with
 |cons r1 r2=>
  cases r2 with
  |cons r3 r4=>cases r4;exact⟨_,_,rfl,r1,r3⟩
theorem vV:kM X (.builtin "abs") (fun xs H Q=>∃i,xs=[.int i]∧Q (.int (if i<0 then -i else i)) H):=by
 intro pins s σ H xs us Q I r h
 obtain⟨i,rfl,q⟩:=h
 obtain⟨u,rfl,t,rfl⟩:=vals1 r
 exact call_abs_int fun u tk=>⟨.int (if i<0 then -i else i),H,I.tok _,⟨_,rfl⟩,q⟩
theorem qI (hc:X.calm=true):kM X (.builtin "max") (fun xs H Q=>∃i j,xs=[.int i,.int j]∧Q (.int (if j>i then j else i)) H):=by
 intro pins s σ H xs us Q I r h
 obtain⟨i,j,rfl,q⟩:=h
 obtain⟨u,w',rfl,⟨t,rfl⟩,⟨t',rfl⟩⟩:=vals2 r
 refine max_two_ints (I.ok.hd hc) fun h' tk k=>⟨_,H,I.kept k,?_,q⟩
 by_cases hj:j>i
 ·rw[if_pos hj,if_pos hj];exact⟨_,rfl⟩
 ·rw[if_neg hj,if_neg hj];exact⟨_,rfl⟩
theorem qJ (hc:X.calm=true):kM X (.builtin "min") (fun xs H Q=>∃i j,xs=[.int i,.int j]∧Q (.int (if j<i then j else i)) H):=by
 intro pins s σ H xs us Q I r h
 obtain⟨i,j,rfl,q⟩:=h
 obtain⟨u,w',rfl,⟨t,rfl⟩,⟨t',rfl⟩⟩:=vals2 r
 refine min_two_ints (I.ok.hd hc) fun h' tk k=>⟨_,H,I.kept k,?_,q⟩
 by_cases hj:j<i
 ·rw[if_pos hj,if_pos hj];exact⟨_,rfl⟩
 ·rw[if_neg hj,if_neg hj];exact⟨_,rfl⟩
end
structure o4 (h:Heap) (x dx C:Addr) (mA:Str→Option Value):Prop where
 obj:h.get? x=some (W.instObj C dx)
 ns:h.Ns1 dx mA
 ne:dx≠x
theorem MF {h:Heap} {dx:Addr} {mA:Str→Option Value} (n:h.Ns1 dx mA):∃od,h.get? dx=some od∧∀name,W.lookIn name od=some (mA name):=by
 obtain⟨o,es,ep,ho,hd,hk,_,hm⟩:=n
 refine⟨o,ho,fun name=>?_⟩
 have e:=hm name
 unfold nsFind findBy at e
 rw[←Array.find?_toList]at e
 unfold W.lookIn
 rw[hd]
 dsimp only
 split
 ·rename_i y q
  rw[q]at e
  exact congrArg some e
 ·rename_i q
  rw[q]at e
  have a:es.toList.any (·.refKey)=false:=by
   rw[List.any_eq_false]
   intro y hy
   obtain⟨z,t,hkey⟩:=hk y (Array.mem_toList_iff.mp hy)
   simp[DictEntry.refKey,hkey]
  have a':¬es.toList.any (·.refKey)=true:=by rw[a];exact Bool.false_ne_true
  rw[if_neg a']
  exact congrArg some e
theorem o4.look {h:Heap} {x dx C:Addr} {mA:Str→Option Value} (I:o4 h x dx C mA):∃od,W.InstAt h x (W.instObj C dx) C (some od)∧∀name,W.lookIn name od=some (mA name):=
 let ⟨od,ho,hl⟩:=MF I.ns
 ⟨od,⟨I.obj,rfl,rfl,ho⟩,hl⟩
section
variable {prog:Program} {w:World} {A:Around} {E:Value→Shared→Prop} {s:Shared} {K:W.Frag} {x dx C f:Addr} {mA:Str→Option Value} {name:Str} {v:Value}
theorem get_map {expr:Bool} {Q:Value→Shared→Prop} (X:K.In s.heap) (I:o4 s.heap x dx C mA) (hg:W.plainGet K C name=true) (hh:W.hasDictIn K C=true)
  (ha:W.findIn K (.ref C) name=some none) (hv:mA name=some v) (hv':W.handedIn v=true) (h:Q v {s with toks:=s.toks+1}):
  wpAny (model prog w) A (getAttr (.ref x) name expr) Q E s:=by
 obtain⟨od,J,hl⟩:=I.look
 exact W.get_value X J (W.plainGet_of hg).1 (W.findObj_own hh ha rfl (by rw[hl,hv])) hv' h
theorem MG {pl:Sem Bool} {Q:Value×List Value→Shared→Prop} (X:K.In s.heap) (I:o4 s.heap x dx C mA) (hg:W.plainGet K C name=true)
  (hf:W.findIn K (.ref C) name=some (some (.ref f))) (ht:W.isFn K (.ref f)=true) (hv:mA name=none) (h:Q (.ref f,[.ref x]) s):
  wpAny (model prog w) A (getMethod (.ref x) name pl) Q E s:=by
 obtain⟨od,J,hl⟩:=I.look
 exact W.method_fn X J (W.plainGet_of hg).1 (W.plainGet_of hg).2 hf (beq_iff_eq.mp ht) (by show(W.lookIn name od).map (·.isSome)=some false;rw[hl,hv];rfl) h
theorem MH {ns:List Str} {Q:Unit→Shared→Prop} (X:K.In s.heap) (I:o4 s.heap x dx C mA)
  (hs:W.findIn K (.ref C) "__setattr__"=some (some (.builtin "object.__setattr__"))) (hp:W.plainOver K C=true) (ht:W.takerIn K C name=some none) (hh:W.hasDictIn K C=true)
  (hw:PySem.Within mA ns) (hsz:ns.length≤sizeLine)
  (h:∀h',o4 h' x dx C (fun y=>if y=name then some v else mA y)→Heap.SameBut dx s.heap h'→Q () {s with heap:=h',toks:=s.toks+2}):
  wpAny (model prog w) A (setAttr (.ref x) name v) Q E s:=by
 obtain⟨od,J,hl⟩:=I.look
 refine W.set_plain X J hs (W.osa_open (s:={s with toks:=s.toks+1}) (r:=none) X J hp ht fun b=>?_)
 obtain⟨cd,hc,hd'⟩:=W.any_some hh
 have hx:s.heap.get? x=some ⟨.ref C,some dx,.plain,#[]⟩:=I.obj
 refine wpAny_bind (wpAny_pure (wpAny_bind (wpAny_bind (wpAny_loadPart hx (wpAny_bind (W.Looks.here (s:={s with toks:=s.toks+1}) (W.looks_clsIn X hc) ?_))))))
 rw[hd']
 refine wpAny_pure (a:=some dx) (wpAny_bind (wpAny_pure (wpAny_bind ?_)))
 refine wpAny_nsSet1 (s:={s with toks:=s.toks+1}) I.ns fun h' hn2 hs2=>?_
 obtain⟨oD,esD,ZG,MI,MJ,MK⟩:=hn2.count (PySem.Within.cons name v hw)
 refine wpAny_bind (wpAny_lookBehind MI (by rw[MJ];exact pastItsLine_dict (Nat.le_trans MK (by rw[List.length_cons];omega))) ?_)
 exact wpAny_pure (h _ ⟨(hs2.2 _ (Ne.symm I.ne)).trans I.obj,hn2,I.ne⟩ hs2)
theorem ML {R:Result→Shared→Prop} {vs:List Value} {kw:List (Str×Value)} (X:K.In s.heap) (hm:W.makesIn K C=true)
  (hi:W.findIn K (.ref C) "__init__"=some (some (.ref f))) (hf:W.typeIn K (.ref f)=some (.type "function"))
  (h:codeAny (model prog w) (A.under (.builtin "type.__call__" ⟨.ref C::vs,kw⟩)) (.call (.ref f) ⟨.ref (s.heap.objs.size+1)::vs,kw⟩) (W.InitBack (s.heap.objs.size+1) R)
   {s with heap:=(s.heap.push W.emptyDict).push (W.instObj C s.heap.objs.size)}):
  codeAny (model prog w) A (.call (.ref C) ⟨vs,kw⟩) R s:=by
 obtain⟨hh,g,d,t,os⟩:=s
 exact W.make_core (W.makes_of X hm) (W.looks_findIn X hi) (fun self=>W.bind_fn X self hf) (.inl rfl) h
end
def bx (f:Str) (v:V):List (Str×V)→List (Str×V)
 |[]=>[(f,v)]
 |(g,x)::r=>if g=f then(g,v)::r else(g,x)::bx f v r
theorem F2 (f g:Str) (v:V):∀fs:List (Str×V),(bx f v fs).lookup g=if g=f then some v else fs.lookup g
 |[]=>by
  show List.lookup g [(f,v)]=_
  by_cases h:g=f
  ·have hb:(g==f)=true:=beq_iff_eq.mpr h
   simp only[List.lookup,hb,if_pos h]
  ·have hb:(g==f)=false:=beq_eq_false_iff_ne.mpr h
   simp only[List.lookup,hb,if_neg h]
 |(k,x)::r=>by
  have ih:=F2 f g v r
  rw[show bx f v ((k,x)::r)=(if k=f then(k,v)::r else(k,x)::bx f v r)from rfl]
  by_cases hk:k=f
  ·rw[if_pos hk]
   by_cases h:g=k
   ·have hb:(g==k)=true:=beq_iff_eq.mpr h
    simp only[List.lookup,hb,if_pos (h.trans hk)]
   ·have hb:(g==k)=false:=beq_eq_false_iff_ne.mpr h
    simp only[List.lookup,hb,if_neg (fun e:g=f=>h (e.trans hk.symm))]
  ·rw[if_neg hk]
   by_cases h:g=k
   ·have hb:(g==k)=true:=beq_iff_eq.mpr h
    simp only[List.lookup,hb,if_neg (fun e:g=f=>hk (h.symm.trans e))]
   ·have hb:(g==k)=false:=beq_eq_false_iff_ne.mpr h
    simp only[List.lookup,hb]
    exact ih
theorem Cc (f:Str) (v:V):∀fs:List (Str×V),f∈(bx f v fs).map (·.1)∧∀g,g∈fs.map (·.1)→g∈(bx f v fs).map (·.1)
 |[]=>⟨by simp[bx],fun g h=>by simp at h⟩
 |(k,x)::r=>by
  obtain⟨i1,i2⟩:=Cc f v r
  rw[show bx f v ((k,x)::r)=(if k=f then(k,v)::r else(k,x)::bx f v r)from rfl]
  by_cases hk:k=f
  ·rw[if_pos hk]
   subst hk
   exact⟨by simp,fun g h=>by simpa using h⟩
  ·rw[if_neg hk]
   refine⟨?_,fun g h=>?_⟩
   ·rw[List.map_cons]
    exact List.mem_cons_of_mem _ i1
   ·rw[List.map_cons]at h ⊢
    rcases List.mem_cons.mp h with e|e
    ·exact List.mem_cons.mpr (.inl e)
    ·exact List.mem_cons_of_mem _ (i2 g e)
theorem F3 (f:Str) (v:V):∀fs:List (Str×V),(bx f v fs).length≤fs.length+1
 |[]=>by simp[bx]
 |(k,x)::r=>by
  have ih:=F3 f v r
  rw[show bx f v ((k,x)::r)=(if k=f then(k,v)::r else(k,x)::bx f v r)from rfl]
  by_cases hk:k=f
  ·rw[if_pos hk,List.length_cons,List.length_cons];omega
  ·rw[if_neg hk,List.length_cons,List.length_cons];omega
theorem g8.some_of {v:V} {o:Option Value} (r:g8 (some v) o):∃u,o=some u∧RelV v u:=by
 cases o with
 |none=>exact(show False from r).elim
 |some u=>exact⟨u,rfl,r⟩
theorem g8.none_of {o:Option Value} (r:g8 none o):o=none:=by
 cases o with
 |none=>rfl
 |some u=>exact(show False from r).elim
theorem MM {v:V} {u:Value} (r:RelV v u):W.handedIn u=true:=by
 cases v with
 |aK=>cases(show u=Value.none from r);rfl
 |bl b=>cases(show u=Value.bool b from r);rfl
 |int i=>obtain⟨t,e⟩:=(show ∃t,u=Value.int i t from r);cases e;rfl
 |str x=>obtain⟨t,e⟩:=(show ∃t,u=Value.str x t from r);cases e;rfl
 |fP b=>obtain⟨t,e⟩:=(show ∃t,u=Value.bytes b t from r);cases e;rfl
 |vz b=>obtain⟨t,e⟩:=(show ∃t,u=Value.float b t from r);cases e;rfl
 |ref a=>cases(show u=Value.ref a from r);rfl
 |ty n=>cases(show u=Value.type n from r);rfl
section
variable {P:Program} {w:World} {H H':Hp} {h h':Heap} {a C dx:Addr} {fs fs':List (Str×V)}
theorem Cd (hok:cX P w H h) (e:H a=some (.ins C dx fs)):∃mA,o4 h a dx C mA∧(∀f,g8 (fs.lookup f) (mA f))∧PySem.Within mA (fs.map (·.1))∧fs.length≤1000∧H dx=some (.own a):=by
 obtain⟨d,z,ne,ob,mA,n,r,q⟩:=(show fQ P w H h a (.ins C dx fs)from hok a _ e)
 exact⟨mA,⟨ob,n,ne⟩,r,q,z,d⟩
end
structure cO (K:W.Frag) (C:Addr):Prop where
 pg:W.plainGet K C Str.empty=true
 hd:W.hasDictIn K C=true
 po:W.plainOver K C=true
 sa:W.findIn K (.ref C) "__setattr__"=some (some (.builtin "object.__setattr__"))
theorem cO.get {K:W.Frag} {C:Addr} (c:cO K C) (f:Str):W.plainGet K C f=true:=c.pg
def bV (K:W.Frag) (C:Addr) (f:Str):Prop:=W.findIn K (.ref C) f=some none
theorem bV.MN {K:W.Frag} {C:Addr} {f:Str} (n:bV K C f):W.takerIn K C f=some none:=by
 unfold W.takerIn
 rw[show W.findIn K (.ref C) f=some none from n]
 rfl
structure Meth (K:W.Frag) (C:Addr) (m:Str) (f:Addr):Prop where
 at_:W.findIn K (.ref C) m=some (some (.ref f))
 fn:W.isFn K (.ref f)=true
 kp:W.keepIn K (.ref f)=true
section
variable {X:Cx} {pins:List (Addr×Obj)} {σ:St} {H:Hp} {s:Shared} {a C dx:Addr} {fs:List (Str×V)} {f:Str} {v:V} {A:Around} {E:Value→Shared→Prop}
theorem o5 {b:Bool} {Q:Value→Shared→Prop} (I:Inv X pins σ H s) (e:H a=some (.ins C dx fs)) (c:cO X.K C) (n:bV X.K C f) (l:fs.lookup f=some v)
  (h:∀u s',Inv X pins σ H s'→RelV v u→Q u s'):wpAny (model X.prog X.w) A (getAttr (.ref a) f b) Q E s:=by
 obtain⟨mA,O,r,_,_,_⟩:=Cd I.hok e
 obtain⟨u,hu,ru⟩:=g8.some_of (v:=v) (o:=mA f) (by rw[←l];exact r f)
 exact get_map I.fD O (c.get f) c.hd n hu (MM ru) (h u _ (I.tok _) ru)
theorem Ce {m:Str} {g:Addr} {pl:Sem Bool} {Q:Value×List Value→Shared→Prop} (I:Inv X pins σ H s) (e:H a=some (.ins C dx fs)) (c:cO X.K C) (k:Meth X.K C m g) (l:fs.lookup m=none)
  (h:Q (.ref g,[.ref a]) s):wpAny (model X.prog X.w) A (getMethod (.ref a) m pl) Q E s:=by
 obtain⟨mA,O,r,_,_,_⟩:=Cd I.hok e
 have hn:mA m=none:=g8.none_of (by rw[←l];exact r m)
 exact MG I.fD O (c.get m) k.at_ k.fn hn h
theorem F4 {y:V} {u:Value} {Q:Unit→Shared→Prop} (I:Inv X pins σ H s) (e:H a=some (.ins C dx fs)) (c:cO X.K C) (n:bV X.K C f) (hl:fs.length<1000) (ry:RelV y u)
  (h:∀s',Inv X pins σ (upd H a (.ins C dx (bx f y fs))) s'→Q () s'):wpAny (model X.prog X.w) A (setAttr (.ref a) f u) Q E s:=by
 obtain⟨mA,O,r,wi,_,ho⟩:=Cd I.hok e
 have hz:(fs.map (·.1)).length≤sizeLine:=by rw[List.length_map,sizeLine_eq];omega
 refine MH I.fD O c.sa c.po n.MN c.hd wi hz fun h' O' sb=>h _ ?_
 have hd:∃o,h'.get? dx=some o:=let ⟨o,_,_,e',_⟩:=O'.ns;⟨o,e'⟩
 refine I.write (x:=a) (e:=dx) (by rw[e];exact True.intro) (.inr ho) (fun b q hb z=>(sb.2 b hb).trans z) hd ?_
 refine⟨by rw[aL O.ne];exact ho,?_,O.ne,O'.obj,_,O'.ns,fun g=>?_,fun g hg=>?_⟩
 ·have:=F3 f y fs;omega
 ·show g8 ((bx f y fs).lookup g) (if g=f then some u else mA g)
  rw[F2]
  by_cases q:g=f
  ·rw[if_pos q,if_pos q];exact ry
  ·rw[if_neg q,if_neg q];exact r g
 ·by_cases q:g=f
  ·rw[q];exact(Cc f y fs).1
  ·refine(Cc f y fs).2 g (wi g fun z=>hg ?_)
   show(if g=f then some u else mA g)=none
   rw[if_neg q];exact z
theorem Inv.made (I:Inv X pins σ H s):Inv X pins σ (upd (upd H s.heap.objs.size (.own (s.heap.objs.size+1))) (s.heap.objs.size+1) (.ins C s.heap.objs.size []))
  {s with heap:=(s.heap.push W.emptyDict).push (W.instObj C s.heap.objs.size)}:=by
 have e1:(s.heap.push W.emptyDict).get? s.heap.objs.size=some W.emptyDict:=Heap.get?_push_size s.heap rfl
 have e2:((s.heap.push W.emptyDict).push (W.instObj C s.heap.objs.size)).get? (s.heap.objs.size+1)=some (W.instObj C s.heap.objs.size):=by
  have:=Heap.get?_push_size (s.heap.push W.emptyDict) (o:=W.instObj C s.heap.objs.size) rfl
  rwa [Heap.size_push]at this
 have e3:(s.heap.push W.emptyDict).Ns s.heap.objs.size (fun _=>none):=⟨W.emptyDict,#[],_,e1,rfl,(fun e he=>absurd he (by simp)),fun _=>rfl⟩
 have I1:=I.laid (a:=s.heap.objs.size) (o:= .own (s.heap.objs.size+1)) (h':=s.heap.push W.emptyDict) (t':=s.toks) (fun b u q=>Heap.get?_push_of_some _ q) (Nat.le_refl _) ⟨_,e1⟩
 refine I1.laid (a:=s.heap.objs.size+1) (o:= .ins C s.heap.objs.size []) (t':=s.toks) (fun b u q=>Heap.get?_push_of_some _ q) (Nat.le_of_eq (Heap.size_push _ _)) ?_
 have ne:s.heap.objs.size≠s.heap.objs.size+1:=Nat.ne_of_lt (Nat.lt_succ_self _)
 refine⟨by rw[aL ne,aH],Nat.zero_le _,ne,e2,fun _=>none,(Heap.Ns1.of_empty e3).at fun o q=>Heap.get?_push_of_some _ q,fun _=>True.intro,fun y hy=>absurd rfl hy⟩
theorem qK {prog:Program} {w:World} {env:Env} {e:Expr} {f:Str} {pos:Pos} {s:Shared} {Q:Value→Shared→Prop} (hb:attributeBase e f env (eval e env)=eval e env)
  (h:wpAny (model prog w) A (eval e env) (fun o s₁=>wpAny (model prog w) A (getAttr o f true) Q E s₁) E s):wpAny (model prog w) A (eval (.Attribute e f pos) env) Q E s:=
 Attribute_any_ h (by rw[arm_eval_Attribute,hb])
end
def ia (K:W.Frag) (ta:TE) (f:Str):TE:=fun σ H Q=>ta σ H fun x H1=>∃a C dx fs v,x= .ref a∧H1 a=some (.ins C dx fs)∧cO K C∧bV K C f∧fs.lookup f=some v∧Q v H1
def sO (K:W.Frag) (ta tv:TE) (f:Str):TS:=fun D σ H=>tv σ H fun y H1=>ta σ H1 fun x H2=>∃a C dx fs,x= .ref a∧H2 a=some (.ins C dx fs)∧cO K C∧bV K C f∧fs.length<1000∧
 D.nx σ (upd H2 a (.ins C dx (bx f y fs)))
def F5 (X:Cx) (op:Operator) (rd:V→V→Hp→VK→Prop):Prop:=
 ∀(pins:List (Addr×Obj)) (s:Shared) (σ:St) (H:Hp) (x y:V) (u v:Value) (Q:VK),Inv X pins σ H s→RelV x u→RelV y v→rd x y H Q→wpAny (model X.prog X.w) X.A (inplaceOp op u v) (EP X pins σ Q) X.xe s
def sP (K:W.Frag) (ta tv:TE) (rd:V→V→Hp→VK→Prop) (f:Str):TS:=fun D σ H=>ta σ H fun x H1=>∃a C dx fs v,x= .ref a∧H1 a=some (.ins C dx fs)∧cO K C∧bV K C f∧fs.lookup f=some v∧
 tv σ H1 fun y H2=>rd v y H2 fun z H3=>∃gP fs',H3 a=some (.ins C gP fs')∧fs'.length<1000∧D.nx σ (upd H3 a (.ins C gP (bx f z fs')))
section
variable {X:Cx} {o e value:Expr} {f:Str} {pos pos' tpos:Pos} {ta tv:TE}
theorem br (he:PE X e ta) (hb:attributeBase e f X.env (eval e X.env)=eval e X.env):PE X (.Attribute e f pos) (ia X.K ta f):=by
 intro pins s σ H Q I h
 refine qK hb (aV (he pins s σ H _ I h) fun u s1 zq0=>?_)
 obtain⟨x,H1,I1,rx,a,C,dx,fs,v,ex,ea,c,n,l,q⟩:=zq0
 subst ex
 obtain rfl:u=Value.ref a:=rx
 exact o5 I1 ea c n l fun u' s2 I2 ru=>⟨v,H1,I2,ru,q⟩
theorem bQ (ha:PE X o ta) (hv:PE X value tv) (hs:swapsWith value (some (.Attribute o f pos')) pos.line X.env=pure false):PS X (.Assign [.Attribute o f pos'] value pos) (sO X.K ta tv f):=by
 intro pins s σ H D I h
 refine plainObj_wpAny_Assign_Attribute (aV (hv pins s σ H _ I h) fun u s1 ⟨y,H1,I1,ry,q⟩=>aV (ha pins s1 σ H1 _ I1 q) fun ov s2 ⟨x,H2,I2,rx,a,C,dx,fs,ex,ea,c,n,l,q2⟩=>?_) hs
 subst ex
 obtain rfl:ov=Value.ref a:=rx
 exact F4 I2 ea c n l ry fun s3 I3=>⟨σ,_,I3,q2⟩
theorem o6 {op:Operator} {rd:V→V→Hp→VK→Prop} (ha:PE X o ta) (hv:PE X value tv) (hop:F5 X op rd):PS X (.AugAssign (.Attribute o f tpos) op value pos) (sP X.K ta tv rd f):=by
 intro pins s σ H D I h
 refine wpAny_AugAssign_AttributeAny (aV (ha pins s σ H _ I h) fun ov s1 zq0=>?_)
 obtain⟨x,H1,I1,rx,a,C,dx,fs,v,ex,ea,c,n,l,q⟩:=zq0
 subst ex
 obtain rfl:ov=Value.ref a:=rx
 refine o5 I1 ea c n l fun u s2 I2 ru=>aV (hv pins s2 σ H1 _ I2 q) fun w3 s3 ⟨y,H2,I3,ry,q3⟩=>aV (hop pins s3 σ H2 v y u w3 _ I3 ru ry q3) fun w4 s4 zq0=>?_
 obtain⟨z,H3,I4,rz,gP,fs',ea',l',q4⟩:=zq0
 exact F4 I4 ea' c n l' rz fun s5 I5=>⟨σ,_,I5,q4⟩
def sQ:V→V→Hp→VK→Prop:=fun x y H Q=>X3 (fun i=>x= .int i) (fun j=>y= .int j) fun i j=>Q (.int (i+j)) H
theorem o7:F5 X .Add sQ:=by
 rintro pins s σ H x y u v Q I rx ry ⟨i,j,rfl,rfl,q⟩
 obtain⟨t,rfl⟩:=(show ∃t,u=Value.int i t from rx)
 obtain⟨t',rfl⟩:=(show ∃t',v=Value.int j t' from ry)
 exact PyProof.Rows.iadd_int ⟨.int (i+j),H,I.tok _,⟨_,rfl⟩,q⟩
theorem ZH {pl:Sem Bool} {m:Str} {apos:Pos} {args:List Expr} {pins:List (Addr×Obj)} {s:Shared} {σ:St} {H:Hp} {Q:Value→Shared→Prop} {te:TE} (he:PE X e te) (I:Inv X pins σ H s)
  (h:te σ H fun x H1=>∃a C dx fs g,x= .ref a∧H1 a=some (.ins C dx fs)∧cO X.K C∧Meth X.K C m g∧fs.lookup m=none∧
   ∀s1,Inv X pins σ H1 s1→wpAny (model X.prog X.w) X.A (callWith pos (.ref g) [.ref a] (backTo pos (starEach args X.env)) (backToKw pos (keywordEach [] X.env))) Q X.xe s1)
  (ht:eval (.Call (.Attribute e m apos) args [] pos) X.env=(do
   let ov ←eval e X.env
   standAt apos.atName
   let (f,first) ←holding [ov] (getMethod ov m pl)
   callWith pos f first (backTo pos (starEach args X.env)) (backToKw pos (keywordEach [] X.env)))):
  wpAny (model X.prog X.w) X.A (eval (.Call (.Attribute e m apos) args [] pos) X.env) Q X.xe s:=by
 refine W.methodCall_KW (pl:=pl) (aV (he pins s σ H _ I h) fun u s1 ⟨x,H1,I1,rx,a,C,dx,fs,g,ex,ea,c,k,l,q⟩=>?_) ht
 subst ex
 obtain rfl:u=Value.ref a:=rx
 exact Ce I1 ea c k l (q s1 I1)
end
structure cD (k:Nat) (A:Around):Prop where
 hd:A.handled=none
 dp:A.depth+3*k+5<recursionLimit
 un:A.units+16*k+200<cLine
theorem cD.mono {j k:Nat} {A:Around} (r:cD k A) (h:j≤k):cD j A:=⟨r.hd,by have:=r.dp;omega,by have:=r.un;omega⟩
theorem cD.deeper {k:Nat} {A:Around} (r:cD (k+1) A) (env:Env):cD k (A.deeper env):=
 ⟨r.hd,by have:=r.dp;show A.depth+1+3*k+5<_;omega,by have:=r.un;show A.units+3+16*k+200<_;omega⟩
theorem MO {A:Around} {C:Addr} {us:List Value} {kw:List (Str×Value)}:(A.under (.builtin "type.__call__" ⟨.ref C::us,kw⟩)).depth=A.depth+1:=by
 first|rfl|simp[Around.under,Code.weight,Code.isCreation,Code.isGuard,Code.isCaller,Code.frames,Code.isFrame,guardIds]
theorem MP {A:Around} {C:Addr} {us:List Value} {kw:List (Str×Value)}:(A.under (.builtin "type.__call__" ⟨.ref C::us,kw⟩)).units=A.units+1:=by
 first|rfl|simp[Around.under,Code.cUnits,Code.frames,Code.isFrame]
theorem cD.make {k:Nat} {A:Around} (r:cD (k+1) A) (C:Addr) (us:List Value) (kw:List (Str×Value)):cD k (A.under (.builtin "type.__call__" ⟨.ref C::us,kw⟩)):=
 ⟨r.hd,by have:=r.dp;rw[MO];omega,by have:=r.un;rw[MP];omega⟩
theorem cD.depth {k:Nat} {A:Around} (r:cD k A):A.depth<recursionLimit:=by have:=r.dp;omega
theorem cD.units {k:Nat} {A:Around} (r:cD k A):A.units+64<cLine:=by have:=r.un;omega
def cK:TA:=fun _ H Q=>Q [] H
def bW (ta:TE) (tr:TA):TA:=fun σ H Q=>ta σ H fun x H1=>tr σ H1 fun xs H2=>Q (x::xs) H2
section
variable {X:Cx} {e:Expr} {es:List Expr} {te:TE} {t:TA} {pos:Pos}
theorem ai:PA X [] cK:=fun _ _ _ _ H Q I h=>Calls.spliced_nil ⟨[],H,I,.nil,h⟩
theorem af (ha:PE X e te) (hr:PA X es t) (hs:starEach (e::es) X.env=(false,eval e X.env)::starEach es X.env:=by rfl):PA X (e::es) (bW te t):=by
 intro pos pins s σ H Q I h
 rw[hs]
 show wpAny _ _ (spliced ((false,eval e X.env)::backTo pos (starEach es X.env))) _ _ s
 refine Calls.spliced_cons (aV (ha pins s σ H _ I h) fun u s1 zq0=>?_)
 obtain⟨x,H1,I1,r1,q1⟩:=zq0
 exact aV (hr pos pins s1 σ H1 _ I1 q1) fun us s2 ⟨xs,H2,I2,r2,q2⟩=>⟨x::xs,H2,I2,.cons r1 r2,q2⟩
def MQ (t:TA):TE:=fun σ H Q=>t σ H fun xs H1=>xs.length≤sizeLine∧∀p,H1 p=none→Q (.ref p) (upd H1 p (.tup xs))
def sR (t:TA):TE:=fun σ H Q=>t σ H fun xs H1=>xs.length≤sizeLine∧∀p,H1 p=none→Q (.ref p) (upd H1 p (.lst xs))
theorem lM {x1} (h:PA X es t):PE X (.Tuple es x1 pos) (MQ t):=by
 intro pins s σ H Q I hq
 refine wpAny_Tuple_spliced (aV (h pos pins s σ H _ I hq) fun us s1 ⟨xs,H1,I1,r,z,q⟩=>⟨by rw[←r.length];exact z,?_⟩)
 have hf:H1 s1.heap.objs.size=none:=I1.hok.fresh (Nat.le_refl _)
 refine⟨.ref s1.heap.objs.size,upd H1 s1.heap.objs.size (.tup xs),I1.laid (t':=s1.toks) (fun b u e=>Heap.get?_push_of_some _ e) (Nat.le_refl _) ?_,rfl,q _ hf⟩
 exact⟨z,us,r,⟨_,Heap.get?_push_size _ rfl,rfl,_,rfl⟩⟩
theorem bO (h:PA X es t):PE X (.List es pos) (sR t):=by
 intro pins s σ H Q I hq
 refine wpAny_List_spliced (aV (h pos pins s σ H _ I hq) fun us s1 ⟨xs,H1,I1,r,z,q⟩=>⟨by rw[←r.length];exact z,?_⟩)
 have hf:H1 s1.heap.objs.size=none:=I1.hok.fresh (Nat.le_refl _)
 refine⟨.ref s1.heap.objs.size,upd H1 s1.heap.objs.size (.lst xs),I1.laid (t':=s1.toks) (fun b u e=>Heap.get?_push_of_some _ e) (Nat.le_refl _) ?_,rfl,q _ hf⟩
 exact⟨z,us,0,r,Heap.get?_push_size _ rfl⟩
end
abbrev Sp:=List V→Hp→VK→XK→Prop
abbrev iI:=List Env→Hp→Shared→XK→Value→Shared→Prop
structure o8 (P:Program) (w:World) (K:W.Frag) (mg:Str→Option Value) (base:Heap) (A:Around) (outer:List Env) (s:Shared) (H:Hp):Prop where
 frames:A.frames=some outer
 mod:Mod K mg base
 bs:∀b o,base.get? b=some o→s.heap.get? b=some o∧H b=none
 kI:base.objs.size≤s.heap.objs.size
 i7:s.heap.FunFrames base outer
 oR:∀b∈frs outer,H b=none
 hok:cX P w H s.heap
 bare:AllBare s.gens
def CE (outer:List Env) (P:Program) (w:World) (H:Hp) (s:Shared) (Q:VK) (u:Value) (s':Shared):Prop:=
 ∃v H',s'.os=s.os∧AllBare s'.gens∧Un (frs outer) [] H H' s.heap s'.heap∧cX P w H' s'.heap∧RelV v u∧Q v H'
def CR (CX:iI) (outer:List Env) (P:Program) (w:World) (H:Hp) (s:Shared) (Q:VK) (E:XK) (r:Result) (s':Shared):Prop:=
 match r with
 | .ok (.ret u)=>CE outer P w H s Q u s'
 | .ok _=>False
 | .error e=>CX outer H s E e s'
structure dF (P:Program) (w:World) (K:W.Frag) (mg:Str→Option Value) (base:Heap) (CX:iI) (k:Nat) (f:Addr) (fd:FuncData) (ps:List Str) (sp:Sp):Prop where
 len:∀vs H Q E,sp vs H Q E→vs.length=ps.length
 run:∀(A:Around) (outer:List Env) (s:Shared) (H:Hp) (args:Args) (us:List Value) (vs:List V) (Q:VK) (E:XK),cD k A→o8 P w K mg base A outer s H→BindsTo s fd args (ps.zip us)→Vals vs us→sp vs H Q E→
  codeAny (model P w) A (.call (.ref f) args) (CR CX outer P w H s Q E) s
theorem dF.mono {P:Program} {w:World} {K:W.Frag} {mg:Str→Option Value} {base:Heap} {CX:iI} {j k:Nat} {f:Addr} {fd:FuncData} {ps:List Str} {sp:Sp} (F:dF P w K mg base CX j f fd ps sp) (h:j≤k):
  dF P w K mg base CX k f fd ps sp:=⟨F.len,fun A outer s H args us vs Q E hr=>F.run A outer s H args us vs Q E (hr.mono h)⟩
theorem dF.imp {P:Program} {w:World} {K:W.Frag} {mg:Str→Option Value} {base:Heap} {CX:iI} {k:Nat} {f:Addr} {fd:FuncData} {ps:List Str} {sp sS:Sp} (F:dF P w K mg base CX k f fd ps sp)
  (h:∀vs H Q E,sS vs H Q E→sp vs H Q E):dF P w K mg base CX k f fd ps sS:=
 ⟨fun vs H Q E q=>F.len vs H Q E (h _ _ _ _ q),fun A outer s H args us vs Q E hr he hb hv hs=>F.run A outer s H args us vs Q E hr he hb hv (h _ _ _ _ hs)⟩
theorem o8.make {P:Program} {w:World} {K:W.Frag} {mg:Str→Option Value} {base:Heap} {A:Around} {outer:List Env} {s:Shared} {H:Hp} (e:o8 P w K mg base A outer s H) (C:Addr) (us:List Value) (kw:List (Str×Value)):
  o8 P w K mg base (A.under (.builtin "type.__call__" ⟨.ref C::us,kw⟩)) outer s H:=⟨by first|exact e.frames|(simpa[Around.under,Code.envs,Code.isFrame,pushEnvs] using e.frames),e.mod,e.bs,e.kI,e.i7,e.oR,e.hok,e.bare⟩
section
variable {X:Cx} {pins:List (Addr×Obj)} {σ:St} {H:Hp} {s s':Shared}
theorem Inv.F6 (I:Inv X pins σ H s):o8 X.prog X.w X.K X.mg X.base X.A X.stack s H:=
 ⟨I.ok.frames,I.ok.mod,I.bs,Nat.le_trans I.ok.kI I.sz,I.stack,I.Fj,I.hok,I.bare⟩
theorem Inv.after {Q:VK} {u:Value} (I:Inv X pins σ H s) (h:CE X.stack X.prog X.w H s Q u s'):EP X pins σ Q u s':=by
 obtain⟨v,H',os,bare,un,hok,r,q⟩:=h
 obtain⟨hh,g,d,t,os'⟩:=s'
 obtain rfl:os'=s.os:=os
 exact⟨v,H',I.call (h':=hh) (g':=g) (d':=d) (t':=t) (ch:=[]) un hok bare (fun b z=>absurd z (by simp)),r,q⟩
end
def fR (sp:Sp) (dY:List V) (E:XK) (t:TA):TE:=fun σ H Q=>t σ H fun vs H1=>sp (vs++dY) H1 Q E
def sU (C:Addr) (m:Str) (sp:Sp) (dY:List V) (E:XK) (ta:TE) (t:TA):TE:=fun σ H Q=>ta σ H fun x H1=>∃a dx fs,x= .ref a∧H1 a=some (.ins C dx fs)∧fs.lookup m=none∧
 t σ H1 fun vs H2=>sp (x::(vs++dY)) H2 Q E
def vW (C:Addr) (sp:Sp) (dY:List V) (E:XK) (t:TA):TE:=fun σ H Q=>t σ H fun vs H1=>∀x dx,H1 x=none→H1 dx=none→dx≠x→
 sp (.ref x::(vs++dY)) (upd (upd H1 dx (.own x)) x (.ins C dx [])) (fun v H2=>v= .aK∧Q (.ref x) H2) E
def Binds (K:W.Frag) (fd:FuncData) (ps:List Str) (ds:List Value):Prop:=
 ∀(s:Shared) (us:List Value),K.In s.heap→(us++ds).length=ps.length→BindsTo s fd ⟨us,[]⟩ (ps.zip (us++ds))
theorem Binds.all {K:W.Frag} {fd:FuncData} {ps:List Str} (h:∀us:List Value,us.length=ps.length→bindArgs fd ⟨us,[]⟩=pure (ps.zip us)):Binds K fd ps []:=fun s us _ hl=>by
 rw[List.append_nil]at hl ⊢
 exact .of_eq (h us hl)
def Passes (CX:iI) (X:Cx) (E:XK):Prop:=∀(pins:List (Addr×Obj)) (σ:St) (H:Hp) (s:Shared) (e:Value) (s':Shared),Inv X pins σ H s→CX X.stack H s E e s'→X.xe e s'
section
variable {X:Cx} {CX:iI} {k:Nat} {f C:Addr} {fd:FuncData} {ps:List Str} {sp:Sp} {dY:List V} {ds:List Value} {E:XK} {x m:Str} {p pos apos:Pos} {e o:Expr} {es:List Expr} {ta:TE} {t:TA}
theorem vX {pins:List (Addr×Obj)} {σ:St} {H:Hp} {s:Shared} {Q:VK} {us:List Value} {vs:List V} (F:dF X.prog X.w X.K X.mg X.base CX k f fd ps sp) (hr:cD k X.A) (hb:Binds X.K fd ps ds) (hd:Vals dY ds) (hx:Passes CX X E)
  (I:Inv X pins σ H s) (r:Vals vs us) (h:sp (vs++dY) H Q E):wpAny (model X.prog X.w) X.A (call (.ref f) us) (EP X pins σ Q) X.xe s:=by
 have r2:Vals (vs++dY) (us++ds):=r.append hd
 have hl:(us++ds).length=ps.length:=by rw[←r2.length];exact F.len _ _ _ _ h
 refine wpAny_call (codeAny_mono (F.run X.A X.stack s H ⟨us,[]⟩ (us++ds) (vs++dY) Q E hr I.F6 (hb s us I.fD hl) r2 h) fun r s' hq=>?_)
 cases r with
 |error e=>exact hx pins σ H s e s' I hq
 |ok fl=>
  cases fl with
  |ret u=>exact I.after hq
  |next=>exact False.elim hq
  |brk=>exact False.elim hq
  |cont=>exact False.elim hq
theorem MR (F:dF X.prog X.w X.K X.mg X.base CX k f fd ps sp) (hr:cD k X.A) (hg:Gl X x) (hm:X.mg x=some (.ref f)) (hk:W.keepIn X.K (.ref f)=true) (hb:Binds X.K fd ps ds) (hd:Vals dY ds) (hx:Passes CX X E)
  (ha:PA X (e::es) t) (hdb:(x==("__debug__":Str))=false:=by decide+kernel) (he:starEach (e::es) X.env=(false,eval e X.env)::starEach es X.env:=by rfl) (hpl:(backTo pos (starEach es X.env)).any (·.1)=false:=by rfl):
  PE X (.Call (.Name x p) (e::es) [] pos) (fR sp dY E t):=by
 intro pins s σ H Q I h
 refine wpAny_Call_Name_kw (vE I hg hm ?_ hdb)
 refine W.callWith_K (h₀:=X.base) I.ok.mod.qy hk (aV (ha pos pins s σ H _ I h) fun us s1 ⟨vs,H1,I1,r,q⟩=>⟨I1.fD,?_⟩) he hpl
 exact vX F hr hb hd hx I1 r q
theorem MS {pl:Sem Bool} (he:PE X o ta) (c:cO X.K C) (hm:Meth X.K C m f) (F:dF X.prog X.w X.K X.mg X.base CX k f fd ps sp) (hr:cD k X.A) (hb:Binds X.K fd ps ds) (hd:Vals dY ds) (hx:Passes CX X E) (ha:PA X (e::es) t)
  (hst:starEach (e::es) X.env=(false,eval e X.env)::starEach es X.env:=by rfl) (hpl:(backTo pos (starEach es X.env)).any (·.1)=false:=by rfl)
  (ht:eval (.Call (.Attribute o m apos) (e::es) [] pos) X.env=(do
   let ov ←eval o X.env
   standAt apos.atName
   let (f,first) ←holding [ov] (getMethod ov m pl)
   callWith pos f first (backTo pos (starEach (e::es) X.env)) (backToKw pos (keywordEach [] X.env))):=by rfl):
  PE X (.Call (.Attribute o m apos) (e::es) [] pos) (sU C m sp dY E ta t):=by
 intro pins s σ H Q I h
 refine W.methodCall_KW (pl:=pl) (aV (he pins s σ H _ I h) fun u s1 ⟨x,H1,I1,rx,a,dx,fs,ex,ea,l,q⟩=>?_) ht
 subst ex
 obtain rfl:u=Value.ref a:=rx
 refine Ce I1 ea c hm l ?_
 refine W.callWith_K (first:=[.ref a]) (h₀:=X.base) I.ok.mod.qy hm.kp (aV (ha pos pins s1 σ H1 _ I1 q) fun us s2 ⟨vs,H2,I2,r,q2⟩=>⟨I2.fD,?_⟩) hst hpl
 exact vX (us:= .ref a::us) (vs:= .ref a::vs) F hr hb hd hx I2 (.cons rfl r) q2
theorem MT {pl:Sem Bool} (he:PE X o ta) (c:cO X.K C) (hm:Meth X.K C m f) (F:dF X.prog X.w X.K X.mg X.base CX k f fd ps sp) (hr:cD k X.A) (hb:Binds X.K fd ps ds) (hd:Vals dY ds) (hx:Passes CX X E)
  (ht:eval (.Call (.Attribute o m apos) [] [] pos) X.env=(do
   let ov ←eval o X.env
   standAt apos.atName
   let (f,first) ←holding [ov] (getMethod ov m pl)
   callWith pos f first (backTo pos (starEach [] X.env)) (backToKw pos (keywordEach [] X.env))):=by rfl):
  PE X (.Call (.Attribute o m apos) [] [] pos) (sU C m sp dY E ta cK):=by
 intro pins s σ H Q I h
 refine W.methodCall_KW (pl:=pl) (aV (he pins s σ H _ I h) fun u s1 ⟨x,H1,I1,rx,a,dx,fs,ex,ea,l,q⟩=>?_) ht
 subst ex
 obtain rfl:u=Value.ref a:=rx
 refine Ce I1 ea c hm l ?_
 exact W.callWith_K0 (first:=[.ref a]) I1.fD hm.kp (vX (us:=[.ref a]) (vs:=[.ref a]) F hr hb hd hx I1 (.cons rfl .nil) q)
structure Mk (K:W.Frag) (C f:Addr):Prop where
 makes:W.makesIn K C=true
 init:W.findIn K (.ref C) "__init__"=some (some (.ref f))
 fn:W.isFn K (.ref f)=true
 kp:W.keepIn K (.ref C)=true
theorem F7 {pins:List (Addr×Obj)} {σ:St} {H:Hp} {s:Shared} {Q:VK} {us:List Value} {vs:List V} (M:Mk X.K C f) (F:dF X.prog X.w X.K X.mg X.base CX k f fd ps sp) (hr:cD (k+1) X.A) (hb:Binds X.K fd ps ds) (hd:Vals dY ds)
  (hx:Passes CX X E) (I:Inv X pins σ H s) (r:Vals vs us)
  (h:∀x dx,H x=none→H dx=none→dx≠x→sp (.ref x::(vs++dY)) (upd (upd H dx (.own x)) x (.ins C dx [])) (fun v H2=>v= .aK∧Q (.ref x) H2) E):
  wpAny (model X.prog X.w) X.A (call (.ref C) us) (EP X pins σ Q) X.xe s:=by
 have hq:=h (s.heap.objs.size+1) s.heap.objs.size (I.hok.fresh (Nat.le_succ _)) (I.hok.fresh (Nat.le_refl _)) (Nat.ne_of_lt (Nat.lt_succ_self _))
 have I2:=Inv.made (C:=C) I
 have r2:Vals (V.ref (s.heap.objs.size+1)::(vs++dY)) (Value.ref (s.heap.objs.size+1)::(us++ds)):= .cons rfl (r.append hd)
 have hl:(Value.ref (s.heap.objs.size+1)::us++ds).length=ps.length:=by
  have e:=r2.length
  rw[F.len _ _ _ _ hq]at e
  exact e.symm
 refine wpAny_call (ML (f:=f) I.fD M.makes M.init (beq_iff_eq.mp M.fn) (codeAny_mono (F.run _ X.stack _ _ ⟨Value.ref (s.heap.objs.size+1)::us,[]⟩ (Value.ref (s.heap.objs.size+1)::(us++ds)) _ _ E (hr.make C us [])
  (I2.F6.make C us []) (hb _ (Value.ref (s.heap.objs.size+1)::us) I2.fD hl) r2 hq) fun r s' hq'=>?_))
 cases r with
 |error e=>exact hx pins σ _ _ e s' I2 hq'
 |ok fl=>
  cases fl with
  |ret u=>
   obtain⟨v,H',I3,rv,ev,q3⟩:=I2.after hq'
   subst ev
   exact⟨rv,⟨V.ref (s.heap.objs.size+1),H',I3,rfl,q3⟩⟩
  |next=>exact False.elim hq'
  |brk=>exact False.elim hq'
  |cont=>exact False.elim hq'
theorem MU (M:Mk X.K C f) (F:dF X.prog X.w X.K X.mg X.base CX k f fd ps sp) (hr:cD (k+1) X.A) (hg:Gl X x) (hm:X.mg x=some (.ref C)) (hb:Binds X.K fd ps ds) (hd:Vals dY ds) (hx:Passes CX X E)
  (ha:PA X (e::es) t) (hdb:(x==("__debug__":Str))=false:=by decide+kernel) (he:starEach (e::es) X.env=(false,eval e X.env)::starEach es X.env:=by rfl) (hpl:(backTo pos (starEach es X.env)).any (·.1)=false:=by rfl):
  PE X (.Call (.Name x p) (e::es) [] pos) (vW C sp dY E t):=by
 intro pins s σ H Q I h
 refine wpAny_Call_Name_kw (vE I hg hm ?_ hdb)
 refine W.callWith_K (h₀:=X.base) I.ok.mod.qy M.kp (aV (ha pos pins s σ H _ I h) fun us s1 ⟨vs,H1,I1,r,q⟩=>⟨I1.fD,?_⟩) he hpl
 exact F7 M F hr hb hd hx I1 r q
theorem MV (M:Mk X.K C f) (F:dF X.prog X.w X.K X.mg X.base CX k f fd ps sp) (hr:cD (k+1) X.A) (hg:Gl X x) (hm:X.mg x=some (.ref C)) (hb:Binds X.K fd ps ds) (hd:Vals dY ds) (hx:Passes CX X E)
  (hdb:(x==("__debug__":Str))=false:=by decide+kernel):PE X (.Call (.Name x p) [] [] pos) (vW C sp dY E cK):=by
 intro pins s σ H Q I h
 refine wpAny_Call_Name_kw (vE I hg hm ?_ hdb)
 exact W.callWith_K0 I.fD M.kp (F7 (us:=[]) M F hr hb hd hx I .nil h)
end
structure aI (N P:List Str) (sc:Scope):Prop where
 kind:sc.kind= .function
 co:sc.isCoroutine=false
 gen:sc.isGenerator=false
 nd:N.Nodup
 pre:N.take P.length=P
 par:∀x∈P,sc.names.lookup x=some .local∨sc.names.lookup x=some .cell
 MW:∀y∈sc.names,y.2≠ .free
theorem F8 {kindOf:Str→Option NameKind} {x:Str}:∀{binds:List (Str×Value)} {m:Str→Option Value},(∀v,(x,v) ∉ binds)→bindL kindOf binds m x=m x
 |[],_,_=>rfl
 |(n,v)::r,m,h=>by
  unfold bindL
  rw[F8 fun w hw=>h w (List.mem_cons_of_mem _ hw)]
  split
  ·have:x≠n:=by rintro rfl;exact h v List.mem_cons_self
   simp[this]
  ·rfl
theorem F9 {kindOf:Str→Option NameKind} {x:Str}:∀{binds:List (Str×Value)} {m:Str→Option Value},(∀v,(x,v) ∉ binds)→bindC kindOf binds m x=m x
 |[],_,_=>rfl
 |(n,v)::r,m,h=>by
  unfold bindC
  rw[F9 fun w hw=>h w (List.mem_cons_of_mem _ hw)]
  split
  ·rfl
  ·have:x≠n:=by rintro rfl;exact h v List.mem_cons_self
   simp[this]
theorem Ga {kindOf:Str→Option NameKind} {x:Str} {v:Value}:∀{P:List Str} {vs:List Value} {i:Nat} {m:Str→Option Value},P.Nodup→P[i]? =some x→vs[i]? =some v→kindOf x=some .local→
  bindL kindOf (P.zip vs) m x=some v
 |[],_,_,_,_,h,_,_=>by simp at h
 |_::_,[],_,_,_,_,h,_=>by simp at h
 |p::P,w::vs,0,m,nd,h1,h2,hk=>by
  simp at h1 h2;subst h1;subst h2
  show bindL kindOf ((p,w)::P.zip vs) m p=_
  unfold bindL
  rw[F8 fun v hv=>(List.nodup_cons.mp nd).1 (List.of_mem_zip hv).1,if_pos hk]
  simp
 |p::P,w::vs,i+1,m,nd,h1,h2,hk=>by
  show bindL kindOf ((p,w)::P.zip vs) m x=_
  unfold bindL
  exact Ga (i:=i) (List.nodup_cons.mp nd).2 (by simpa using h1) (by simpa using h2) hk
theorem Gb {kindOf:Str→Option NameKind} {x:Str} {v:Value}:∀{P:List Str} {vs:List Value} {i:Nat} {m:Str→Option Value},P.Nodup→P[i]? =some x→vs[i]? =some v→kindOf x≠some .local→
  bindC kindOf (P.zip vs) m x=some v
 |[],_,_,_,_,h,_,_=>by simp at h
 |_::_,[],_,_,_,_,h,_=>by simp at h
 |p::P,w::vs,0,m,nd,h1,h2,hk=>by
  simp at h1 h2;subst h1;subst h2
  show bindC kindOf ((p,w)::P.zip vs) m p=_
  unfold bindC
  rw[F9 fun v hv=>(List.nodup_cons.mp nd).1 (List.of_mem_zip hv).1,if_neg hk]
  simp
 |p::P,w::vs,i+1,m,nd,h1,h2,hk=>by
  show bindC kindOf ((p,w)::P.zip vs) m x=_
  unfold bindC
  exact Gb (i:=i) (List.nodup_cons.mp nd).2 (by simpa using h1) (by simpa using h2) hk
def start (N:List Str) (vs:List V):St:=vs.map some++List.replicate (N.length-vs.length) none
def lN (CX:iI) (P:Program) (w:World) (K:W.Frag) (mg:Str→Option Value) (base:Heap) (N:List Str) (qual:Str) (scope:Scope) (f:Addr) (cd:Value) (A:Around) (outer:List Env) (s:Shared) (H:Hp) (E:XK):Cx where
 prog:=P
 w:=w
 K:=K
 mg:=mg
 base:=base
 A:=A.deeper (envOfC qual scope s.heap.objs.size f cd)
 N:=N
 eY:=s
 sA:=H
 env:=envOfC qual scope s.heap.objs.size f cd
 outer:=outer
 stack:=envOfC qual scope s.heap.objs.size f cd::outer
 ex:=[]
 calm:=true
 fn:=fun _=>true
 pn:=[]
 xe:=fun e s'=>wpAny (model P w) (A.deeper (envOfC qual scope s.heap.objs.size f cd)) (leaving (envOfC qual scope s.heap.objs.size f cd) e) (fun _ s''=>CX outer H s E e s'') (fun e' s''=>CX outer H s E e' s'') s'
theorem Gd {sc:Scope} {n:Nat} {x:Str} (h:sc.names.lookup x=some .cell):∃c,(cellsFrom n sc.names []).lookup x=some c:=by
 have q:=W.cellsFrom_some sc.names n [] (.inl h)
 exact Option.isSome_iff_exists.mp q
theorem MX {CX:iI} {P:Program} {w:World} {K:W.Frag} {mg:Str→Option Value} {base:Heap} {N ps:List Str} {qual:Str} {scope:Scope} {f:Addr} {cd:Value} {A:Around} {outer:List Env} {s s1:Shared} {H:Hp} {E:XK} {us:List Value} {vs:List V}
  (S:aI N ps scope) (hd:A.handled=none) (e0:o8 P w K mg base A outer s H) (hl:vs.length=ps.length) (r:Vals vs us)
  (x:InCallC s s.heap.objs.size (bindL (envOfC qual scope s.heap.objs.size f cd).kindOf (ps.zip us) fun _=>none) (cellsFrom (s.heap.objs.size+1) scope.names []) (bindC (envOfC qual scope s.heap.objs.size f cd).kindOf (ps.zip us) fun _=>none) s1):
  Inv (lN CX P w K mg base N qual scope f cd A outer s H E) [] (start N vs) H s1:=by
 have hpl:ps.length≤N.length:=by have:=congrArg List.length S.pre;rw[List.length_take]at this;omega
 obtain⟨h1,tk,rfl,hk⟩:=x.done
 have qL:∀b:Addr,b ∉ (lN CX P w K mg base N qual scope f cd A outer s H E).ex:=fun b z=>absurd (show b∈([]:List Addr)from z) (by simp)
 refine⟨⟨e0.mod,S.kind,rfl,rfl,Nat.le_refl _,fun y z c h1 h2=>?_,fun y hy=>?_,fun y c _ h=>?_,fun _=>hd,Around.frames_deeper e0.frames,.inr ⟨rfl,rfl⟩,fun b z=>absurd z (qL b),e0.bs,e0.kI,fun b _ _=>qL b,fun b z=>absurd z (qL b),e0.i7,e0.oR⟩,
  rfl,e0.bare,Un.kept hk,⟨_,x.toInCall.ns,fun i y v h1 h2 h3=>?_⟩,fun y c h=>⟨_,x.cell y c h⟩,e0.hok.fresh (Nat.le_refl _),fun y c h=>?_,fun p hp=>absurd (show p∈([]:List (Addr×Obj))from hp) (by simp),e0.hok.kept hk,?_⟩
 ·exact name_of_addr x.apart (PySem.mem_of_lookup h1) (PySem.mem_of_lookup h2)
 ·have hy:scope.names.lookup y=some .cell∨scope.names.lookup y=some .free:=hy
  rcases hy with hy|hy
  ·exact Gd hy
  ·exact absurd rfl (S.MW _ (PySem.mem_of_lookup hy))
 ·exact Nat.le_of_lt (x.above y c (PySem.mem_of_lookup h))
 ·have hi:i<vs.length:=by
   unfold start at h2
   by_cases hi:i<vs.length
   ·exact hi
   ·rw[List.getElem?_append_right (by simpa using hi)]at h2
    rw[List.getElem?_replicate]at h2
    split at h2<;>cases h2
  have ha:vs[i]? =some v:=by
   unfold start at h2
   rw[List.getElem?_append_left (by simpa using hi),List.getElem?_map]at h2
   cases e:vs[i]? with
   |none=>rw[e]at h2;cases h2
   |some a=>rw[e]at h2;cases h2;rfl
  obtain⟨u,hu,rv⟩:=r.get ha
  have hp:ps[i]? =some y:=by
   rw[←S.pre,List.getElem?_take_of_lt (by omega)];exact h1
  have Ge:ps.Nodup:=by rw[←S.pre];exact S.nd.sublist (List.take_sublist _ _)
  refine⟨u,rv,?_⟩
  rcases S.par y (List.mem_of_getElem? hp)with k|k
  ·exact .inl ⟨k,Ga Ge hp hu k⟩
  ·obtain⟨c,e⟩:=Gd (n:=s.heap.objs.size+1) k
   refine .inr ⟨.inl k,c,e,?_⟩
   have q:=x.cell y c e
   rw[Gb Ge hp hu (by show scope.names.lookup y≠_;rw[k];decide)]at q
   exact q
 ·exact e0.hok.fresh (Nat.le_of_lt (x.above y c (PySem.mem_of_lookup h)))
 ·unfold start
  show _=N.length
  rw[List.length_append,List.length_map,List.length_replicate]
  omega
theorem MY {CX:iI} {P:Program} {w:World} {K:W.Frag} {mg:Str→Option Value} {base:Heap} {k:Nat} {f:Addr} {name qual:Str} {params:Arguments} {body:List Stmt} {scope:Scope} {dV kV doc pm cdv ct oc:Value} {an od:Option Addr}
  {osl:Array (Option Value)} {N ps:List Str} {sp:Sp} (lk:K.lookup f=some ⟨oc,od,.func (W.fnOf name qual params body scope dV kV doc pm an cdv ct),osl⟩) (hcd:W.codeIn K cdv qual=true) (S:aI N ps scope)
  (len:∀vs H Q E,sp vs H Q E→vs.length=ps.length)
  (hbody:∀(A:Around) (outer:List Env) (s:Shared) (H:Hp) (vs:List V) (Q:VK) (E:XK),cD k (A.deeper (envOfC qual scope s.heap.objs.size f cdv))→sp vs H Q E→
   ∃t,gc (lN CX P w K mg base N qual scope f cdv A outer s H E) body t∧t {nx:=fun _ H'=>Q .aK H',rt:=Q} (start N vs) H):
  dF P w K mg base CX (k+1) f (W.fnOf name qual params body scope dV kV doc pm an cdv ct) ps sp:=by
 refine⟨len,fun A outer s H args us vs Q E hr e0 hb r kN=>?_⟩
 have hl:=len _ _ _ _ kN
 have KX:K.In s.heap:=e0.mod.qy.keeps fun b o e=>(e0.bs b o e).1
 have lim:s.heap.NoLimit:=e0.mod.nolimit.keeps fun b o e=>(e0.bs b o e).1
 have hkind:∀y∈ps.zip us,scope.names.lookup y.1=some .local∨(scope.names.lookup y.1=some .cell∧((cellsFrom (s.heap.objs.size+1) scope.names []).lookup y.1).isSome=true):=fun⟨n,v⟩ hy=>by
  rcases S.par n (List.of_mem_zip hy).1 with q|q
  ·exact .inl q
  ·exact .inr ⟨q,W.cellsFrom_some _ _ _ (.inl q)⟩
 refine codeAny_call_function hr.depth (KX _ _ lk) rfl S.co S.gen rfl (W.codeRec_of KX hcd) (hb _ _ _ _ ?_)
 refine wpAny_newFunctionEnv_cells S.kind hkind fun env he s1 x=>?_
 subst he
 refine⟨lim.keeps x.toInCall.keep,codeAny_func ?_⟩
 obtain⟨t,ht,hq⟩:=hbody A outer s H vs Q E (hr.deeper _) kN
 have I:Inv (lN CX P w K mg base N qual scope f cdv A outer s H E) [] (start N vs) H s1:=MX S hr.hd e0 hl r x
 refine wpAny_mono (ht [] s1 (start N vs) H _ I hq) (fun fl s' hs=>?_) fun e s' hs=>hs
 have fin:∀{σ':St} {H':Hp} {v:V} {u:Value},Inv (lN CX P w K mg base N qual scope f cdv A outer s H E) [] σ' H' s'→RelV v u→Q v H'→CE outer P w H s Q u s':=
  fun{σ' H' v u} J rv q=>⟨v,H',J.os,J.bare,J.base,J.hok,rv,q⟩
 cases fl with
 |ret u=>
  obtain⟨v,σ',H',J,rv,q⟩:=hs
  exact fin J rv q
 |next=>
  obtain⟨σ',H',J,q⟩:=hs
  exact fin (v:=V.aK) (u:=Value.none) J rfl q
 |brk=>
  obtain⟨_,_,_,q⟩:=hs
  exact False.elim q
 |cont=>
  obtain⟨_,_,_,q⟩:=hs
  exact False.elim q
section
variable {X:Cx} {x:Str} {p pos:Pos} {e:Expr} {es:List Expr} {t:TA} {id T:String} {r:List V→Hp→VK→Prop}
def vY (r:List V→Hp→VK→Prop) (t:TA):TE:=fun σ H Q=>t σ H fun vs H1=>r vs H1 Q
theorem bZ (hc:kM X (.builtin id) r) (hg:Gl X x) (hm:X.mg x=none) (hv:bootBuiltins x=some (.builtin id)) (ha:PA X (e::es) t) (hn:x≠"__name__":=by decide) (hdb:(x==("__debug__":Str))=false:=by decide+kernel)
  (he:starEach (e::es) X.env=(false,eval e X.env)::starEach es X.env:=by rfl) (hpl:(backTo pos (starEach es X.env)).any (·.1)=false:=by rfl):PE X (.Call (.Name x p) (e::es) [] pos) (vY r t):=by
 intro pins s σ H Q I h
 refine wpAny_Call_Name_kw (qB I hg hm hv ?_ hn hdb)
 exact PyProof.Rows.callWith_builtin1 (aV (ha pos pins s σ H _ I h) fun us s1 ⟨vs,H1,I1,r1,q1⟩=>hc pins s1 σ H1 vs us Q I1 r1 q1) he hpl
theorem lO (hc:kM X (.type T) r) (hg:Gl X x) (hm:X.mg x=none) (hv:bootBuiltins x=some (.type T)) (ha:PA X (e::es) t) (hn:x≠"__name__":=by decide) (hdb:(x==("__debug__":Str))=false:=by decide+kernel)
  (he:starEach (e::es) X.env=(false,eval e X.env)::starEach es X.env:=by rfl) (hpl:(backTo pos (starEach es X.env)).any (·.1)=false:=by rfl):PE X (.Call (.Name x p) (e::es) [] pos) (vY r t):=by
 intro pins s σ H Q I h
 refine wpAny_Call_Name_kw (qB I hg hm hv ?_ hn hdb)
 exact PyProof.Rows.callWith_type1 (aV (ha pos pins s σ H _ I h) fun us s1 ⟨vs,H1,I1,r1,q1⟩=>hc pins s1 σ H1 vs us Q I1 r1 q1) he hpl
end
end L2
namespace HT
open PySem PyProof.Rows
open PySem.W (Frag)
open Path (Insn bitsOf State_ numbers inBits Range_ beginsFrom askTold littleOf helpersIn Bytes)
section
variable {prog:Program} {w:World} {A:Around} {E:Value→Shared→Prop} {s:Shared}
def gg (n d:Nat):Option Int→Nat
 |none=>d
 |some v=>if v<0 then(v+(n:Int)).toNat else min v.toNat n
theorem MZ (n d:Nat):gg n d none=d:=rfl
theorem sV (n d k:Nat):gg n d (some (k:Int))=min k n:=by
 show(if(k:Int)<0 then((k:Int)+(n:Int)).toNat else min (k:Int).toNat n)=min k n
 rw[if_neg (by omega),Int.toNat_natCast]
end
end HT
namespace L2
open PySem PySem.Spec PyProof.Rows
open PySem.W (Frag)
open Path (Insn bitsOf State_ numbers inBits Range_ beginsFrom askTold littleOf helpersIn Bytes)
abbrev TO:=St→Hp→(Option Int→Hp→Prop)→Prop
def PO (X:Cx) (e:Option Expr) (t:TO):Prop:=
 ∀(pins:List (Addr×Obj)) (s:Shared) (σ:St) (H:Hp) (Q:Option Int→Hp→Prop),Inv X pins σ H s→t σ H Q→
  wpAny (model X.prog X.w) X.A (evalPart e X.env) (fun u s'=>∃o H',Inv X pins σ H' s'∧IsPart u o∧Q o H') X.xe s
def Gf:TO:=fun _ H Q=>Q none H
def vZ (t:TE):TO:=fun σ H Q=>t σ H fun x H1=>∃i,x= .int i∧Q (some i) H1
section
variable {X:Cx} {e:Expr} {te:TE} {lo hi:Option Expr} {tl th:TO} {pos p2:Pos}
theorem M0:PO X none Gf:=by
 intro pins s σ H Q I h
 rw[evalPart_none]
 exact wpAny_pure ⟨none,H,I,.none,h⟩
theorem lP (h:PE X e te):PO X (some e) (vZ te):=by
 intro pins s σ H Q I hw
 rw[evalPart_some]
 refine aV (h pins s σ H _ I hw) fun u s1 zq0=>?_
 obtain⟨x,H1,I1,r1,q1⟩:=zq0
 obtain⟨i,rfl,q⟩:=q1
 obtain⟨t,rfl⟩:=r1
 exact⟨some i,H1,I1,.int i t,q⟩
def Gg (X:Cx) (r:V→Option Int→Option Int→Hp→VK→Prop):Prop:=
 ∀(pins:List (Addr×Obj)) (s:Shared) (σ:St) (H:Hp) (x:V) (v vl vu:Value) (lo hi:Option Int) (sl:Addr) (Q:VK),Inv X pins σ H s→RelV x v→s.heap.IsSliceOf sl vl vu .none→IsPart vl lo→IsPart vu hi→r x lo hi H Q→
  ∃T id,typeLookup (.type T) "__getitem__"=pure (some (.builtin id))∧s.TypeIs v T∧wpAny (model X.prog X.w) X.A (getItem v (.ref sl)) (EP X pins σ Q) X.xe s
def Cf (r:V→Option Int→Option Int→Hp→VK→Prop) (te:TE) (tl th:TO):TE:=fun σ H Q=>te σ H fun x H1=>tl σ H1 fun l H2=>th σ H2 fun u H3=>r x l u H3 Q
theorem sW {r:V→Option Int→Option Int→Hp→VK→Prop} (hr:Gg X r) (he:PE X e te) (hl:PO X lo tl) (hu:PO X hi th):PE X (.Subscript e (.Slice lo hi none p2) pos) (Cf r te tl th):=by
 intro pins s σ H Q I h
 refine Subscript_ (aV (he pins s σ H _ I h) fun v s1 zq0=>?_)
 obtain⟨x,H1,I1,r1,q1⟩:=zq0
 refine wpAny_Slice (aV (hl pins s1 σ H1 _ I1 q1) fun vl s2 ⟨l,H2,I2,pl,q2⟩=>aV (hu pins s2 σ H2 _ I2 q2) fun vu s3 zq0=>?_)
 obtain⟨u,H3,I3,pu,q3⟩:=zq0
 rw[evalPart_none]
 refine wpAny_pure ?_
 have I4:Inv X pins σ H3 {s3 with heap:=s3.heap.push {cls:= .type "slice",data:= .fields #[vl,vu,.none]}}:=I3.kept (t':=s3.toks) fun b ob q=>Heap.get?_push_of_some _ q
 obtain⟨T,id,hT,ht,hg⟩:=hr pins {s3 with heap:=s3.heap.push {cls:= .type "slice",data:= .fields #[vl,vu,.none]}} σ H3 x v vl vu l u s3.heap.objs.size Q I4 r1 (Heap.IsSliceOf.new ..) pl pu q3
 show wpAny (model X.prog X.w) X.A (subscriptTail e (.Slice lo hi none p2) v (.ref s3.heap.objs.size)) (EP X pins σ Q) X.xe {s3 with heap:=s3.heap.push {cls:= .type "slice",data:= .fields #[vl,vu,.none]}}
 exact tail_any (ops:=[.ref s3.heap.objs.size,v]) ht hT hg (by with_unfolding_all rfl)
def jK (xs:List V) (lo hi:Option Int):List V:=(xs.drop (HT.gg xs.length 0 lo)).take (HT.gg xs.length xs.length hi-HT.gg xs.length 0 lo)
theorem M1 (xs:List V) (lo hi:Option Int):(jK xs lo hi).length≤xs.length:=by
 unfold jK
 rw[List.length_take,List.length_drop]
 omega
end
def lQ (n:Nat) (i:Int):Option Nat:=if 0≤i then(if i<n then some i.toNat else none)else if -(n:Int)≤i then some (i+n).toNat else none
def nA {α:Type} (xs:List α) (i:Int):Option α:=(lQ xs.length i).bind fun j=>xs[j]?
theorem Gh {n:Nat} {i:Int} {j:Nat} (h:lQ n i=some j):seqIndex? i n=some j∧j<n∧ -(n:Int)≤i∧i<n:=by
 unfold lQ at h
 by_cases h0:0≤i
 ·rw[if_pos h0]at h
  by_cases h1:i<n
  ·rw[if_pos h1]at h
   have e:i.toNat=j:=Option.some.inj h
   exact⟨by rw[seqIndex_of h0 h1,e],by omega,by omega,h1⟩
  ·rw[if_neg h1]at h;cases h
 ·rw[if_neg h0]at h
  by_cases h1: -(n:Int)≤i
  ·rw[if_pos h1]at h
   have e:(i+n).toNat=j:=Option.some.inj h
   exact⟨by rw[seqIndex_neg (by omega) h1,e],by omega,h1,by omega⟩
  ·rw[if_neg h1]at h;cases h
theorem Gi {α:Type} {xs:List α} {i:Int} {v:α} (h:nA xs i=some v):∃j,seqIndex? i xs.length=some j∧xs[j]? =some v∧j<xs.length∧ -(xs.length:Int)≤i∧i<xs.length:=by
 unfold nA at h
 cases e:lQ xs.length i with
 |none=>rw[e]at h;cases h
 |some j=>
  rw[e]at h
  obtain⟨h1,h2,h3,h4⟩:=Gh e
  exact⟨j,h1,h,h2,h3,h4⟩
theorem ic {α:Type} {xs:List α} {j:Nat} {v:α} (h:xs[j]? =some v):nA xs (j:Int)=some v:=by
 have hj:j<xs.length:=(List.getElem?_eq_some_iff.mp h).1
 have e:lQ xs.length (j:Int)=some j:=by
  unfold lQ
  rw[if_pos (by omega),if_pos (by omega)];simp
 unfold nA;rw[e];exact h
def sX (b:Expr):Prop:=∀o i,subscripted b false o i=operate [o,i] (getItem o i)
def Cg (X:Cx) (r:R2):Prop:=
 ∀(value slice:Expr) (pins:List (Addr×Obj)) (s:Shared) (σ:St) (H:Hp) (x y:V) (v u:Value) (Q:VK),Inv X pins σ H s→RelV x v→RelV y u→r x y H Q→
  subscripted slice false v u=operate [v,u] (getItem v u)→wpAny (model X.prog X.w) X.A (subscriptTail value slice v u) (EP X pins σ Q) X.xe s
def Ci (X:Cx) (id:String) (r:V→List V→Hp→VK→Prop):Prop:=
 ∀(pins:List (Addr×Obj)) (s:Shared) (σ:St) (H:Hp) (x:V) (xs:List V) (v:Value) (us:List Value) (Q:VK),Inv X pins σ H s→RelV x v→Vals xs us→r x xs H Q→
  wpAny (model X.prog X.w) X.A (call (.builtin id) (v::us)) (EP X pins σ Q) X.xe s
section
variable {X:Cx} {a b:Expr} {ta tb:TE} {pos:Pos}
theorem bX {r:R2} (hr:Cg X r) (ha:PE X a ta) (hb:PE X b tb) (hs:sX b):PE X (.Subscript a b pos) (dX r ta tb):=by
 intro pins s σ H Q I h
 exact Subscript_ (vQ ha hb I h fun v u s2 x y H2 I2 rx ry q=>hr a b pins s2 σ H2 x y v u Q I2 rx ry q (hs _ _))
def qM (K:W.Frag):R2:=fun x y H Q=>∃p xs i v,x= .ref p∧y= .int i∧aJ K H p xs∧nA xs i=some v∧Q v H
def M3 (K:W.Frag):R2:=fun x y H Q=>∃p xs i v,x= .ref p∧y= .int i∧cI K H p xs∧nA xs i=some v∧Q v H
theorem bR:Cg X (qM X.K):=by
 intro value slice pins s σ H x y v u Q I rx ry h hs
 obtain⟨p,xs,i,z,rfl,rfl,hq,he,q⟩:=h
 cases rx
 obtain⟨t,rfl⟩:=ry
 obtain⟨its,r,pl,hz⟩:=I.list hq
 obtain⟨j,h1,h2,h3,h4,h5⟩:=Gi he
 obtain⟨w,ew,rw'⟩:=r.get h2
 have hl:=r.length
 have hn:=sN
 have fin:EP X pins σ Q w s:=⟨z,H,I,rw',q⟩
 by_cases h0:0≤i
 ·have hj:i.toNat=j:=by
   rw[seqIndex_of h0 h5]at h1
   exact Option.some.inj h1
  exact item_listR pl.isList h0 (by omega) (by rw[hj];simpa using ew) fin hs
 ·have hj:(i+(its.toArray.size:Int)).toNat=j:=by
   rw[seqIndex_neg (by omega) h4]at h1
   rw[List.size_toArray,←hl]
   exact Option.some.inj h1
  exact subscriptTail_builtinR (x:=w) pl.isList.typeIs slot_list_getitem.lookup
   (wpAny_getItem_list_neg (Q:=fun r s'=>r=w∧EP X pins σ Q r s') pl.isList (by omega) (by rw[List.size_toArray]<;>omega) (by omega) (by rw[hj];simpa using ew) ⟨rfl,fin⟩) hs
theorem Cj:Cg X (M3 X.K):=by
 intro value slice pins s σ H x y v u Q I rx ry h hs
 obtain⟨p,xs,i,z,rfl,rfl,hq,he,q⟩:=h
 cases rx
 obtain⟨t,rfl⟩:=ry
 obtain⟨its,r,pl,hz⟩:=I.tuple hq
 obtain⟨j,h1,h2,h3,h4,h5⟩:=Gi he
 obtain⟨w,ew,rw'⟩:=r.get h2
 have hl:=r.length
 have hn:=sN
 have fin:EP X pins σ Q w s:=⟨z,H,I,rw',q⟩
 exact subscriptTail_builtinR (x:=w) pl.typeIs slot_tuple_getitem.lookup
  (getItem_tuple (j:=j) (Q:=fun r s'=>r=w∧EP X pins σ Q r s') pl (by omega) (by omega) (by rw[List.size_toArray,←hl];exact h1) (by simpa using ew) ⟨rfl,fin⟩) hs
theorem M4 (its:List Value) (n j:Nat) (u:Value):Obj.mapSeq (·.setIfInBounds j u) {cls:= .type "list",data:= .seq its.toArray n}={cls:= .type "list",data:= .seq (its.set j u).toArray n}:=by
 simp[Obj.mapSeq]
theorem Inv.lst {pins:List (Addr×Obj)} {σ:St} {H:Hp} {s:Shared} {p:Addr} {xs:List V} (I:Inv X pins σ H s) (h:H p=some (.lst xs)):
  ∃(its:List Value) (n:Nat),Vals xs its∧s.heap.get? p=some {cls:= .type "list",data:= .seq its.toArray n}∧xs.length≤sizeLine:=by
 obtain⟨z,its,n,r,e⟩:=I.hok p _ h
 exact⟨its,n,r,e,z⟩
theorem Inv.M5 {pins:List (Addr×Obj)} {σ:St} {H:Hp} {s:Shared} {p:Addr} {xs ys:List V} {its its':List Value} {n n':Nat} {f:Obj→Obj} (I:Inv X pins σ H s) (h:H p=some (.lst xs))
  (ho:s.heap.get? p=some {cls:= .type "list",data:= .seq its.toArray n}) (hf:f {cls:= .type "list",data:= .seq its.toArray n}={cls:= .type "list",data:= .seq its'.toArray n'}) (r:Vals ys its') (hz:ys.length≤sizeLine) (t:Nat):
  Inv X pins σ (upd H p (.lst ys)) {s with heap:=s.heap.update p f,toks:=t}:=by
 have e:(s.heap.update p f).get? p=some {cls:= .type "list",data:= .seq its'.toArray n'}:=by
  rw[Heap.get?_update_self f ho (by rw[hf]<;>rfl),hf]
 refine I.write (x:=p) (e:=p) (by rw[h];trivial) (.inl rfl) (fun b u hb q=>(Heap.get?_update_other _ _ (Ne.symm hb)).trans q) ⟨_,e⟩ ?_
 exact⟨hz,its',n',r,e⟩
def o9:V→V→V→Hp→(Hp→Prop)→Prop:=fun o i v H Q=>∃p xs k j,o= .ref p∧i= .int k∧H p=some (.lst xs)∧lQ xs.length k=some j∧Q (upd H p (.lst (xs.set j v)))
theorem set_list:FA X o9:=by
 intro pins s σ H o i v ov iv u Q I ro ri rv h
 obtain⟨p,xs,k,j,rfl,rfl,hp,hj,q⟩:=h
 cases ro
 obtain⟨t,rfl⟩:=ri
 obtain⟨its,n,r,ho,hz⟩:=I.lst hp
 obtain⟨h1,h2,h3,h4⟩:=Gh hj
 have hl:=r.length
 have hn:=sN
 have I':Inv X pins σ (upd H p (.lst (xs.set j v))) {s with heap:=s.heap.update p (Obj.mapSeq (·.setIfInBounds j u))}:=
  I.M5 hp ho (M4 its n j u) (r.set rv j) (by rw[List.length_set];exact hz) s.toks
 by_cases h0:0≤k
 ·have hk:k.toNat=j:=by
   rw[seqIndex_of h0 h4]at h1
   exact Option.some.inj h1
  exact W.ki_setAt ho h0 (by omega) (by rw[List.size_toArray,←hl];exact h4) (by rw[hk];exact⟨_,I',q⟩)
 ·have hk:(k+(its.toArray.size:Int)).toNat=j:=by
   rw[seqIndex_neg (by omega) h3]at h1
   rw[List.size_toArray,←hl]
   exact Option.some.inj h1
  exact W.ki_setBack ho (by omega) (by rw[List.size_toArray,←hl];exact h3) (by omega) (by rw[hk];exact⟨_,I',q⟩)
theorem M6 (lo hi:Option Int) (n:Nat):(sliceBounds lo hi none n).1=((HT.gg n 0 lo:Nat):Int)∧(sliceBounds lo hi none n).2.1=((HT.gg n n hi:Nat):Int)∧(sliceBounds lo hi none n).2.2=1:=by
 refine⟨?_,?_,rfl⟩
 ·cases lo with
  |none=>simp[sliceBounds,HT.gg]
  |some i=>
   simp only[sliceBounds,HT.gg,Option.getD_none,show(1:Int)>0 by decide,if_true]
   by_cases h:i<0
   ·simp only[h,if_true]<;>omega
   ·simp only[h,if_false]<;>omega
 ·cases hi with
  |none=>simp[sliceBounds,HT.gg]
  |some i=>
   simp only[sliceBounds,HT.gg,Option.getD_none,show(1:Int)>0 by decide,if_true]
   by_cases h:i<0
   ·simp only[h,if_true]<;>omega
   ·simp only[h,if_false]<;>omega
theorem M7 (its:List Value) (lo hi:Option Int):slicePick its.toArray lo hi none=((its.drop (HT.gg its.length 0 lo)).take (HT.gg its.length its.length hi-HT.gg its.length 0 lo)).toArray:=by
 obtain⟨h1,h2,h3⟩:=M6 lo hi its.toArray.size
 unfold slicePick
 rw[h1,h2,h3]
 simp only[sliceRange_one,pick_run,List.size_toArray]<;>rfl
def wc (K:W.Frag):V→Option Int→Option Int→Hp→VK→Prop:=fun x lo hi H Q=>∃a xs,x= .ref a∧aJ K H a xs∧∀p,H p=none→Q (.ref p) (upd H p (.lst (jK xs lo hi)))
theorem sY:Gg X (wc X.K):=by
 intro pins s σ H x v vl vu lo hi sl Q I rx hs pl pu h
 obtain⟨a,xs,rfl,hx,q⟩:=h
 cases rx
 obtain⟨its,r,ht,hz⟩:=I.list hx
 have hlen:=r.length
 refine⟨"list",_,slot_list_getitem.lookup,ht.isList.typeIs,?_⟩
 refine wpAny_getItem_list_slice ht.isList hs pl pu .none (by simp) ?_ (by rw[List.size_toArray]<;>omega)
 rw[M7,←hlen]
 refine⟨.ref s.heap.objs.size,_,I.laid (t':=s.toks) (o:= .lst (jK xs lo hi)) (fun b ob q=>Heap.get?_push_of_some _ q) (Nat.le_refl _) ?_,rfl,q _ (I.hok.fresh (Nat.le_refl _))⟩
 exact⟨Nat.le_trans (M1 xs lo hi) hz,_,0,(r.drop (HT.gg xs.length 0 lo)).take (HT.gg xs.length xs.length hi-HT.gg xs.length 0 lo),Heap.get?_push_size _ rfl⟩
def gQ:V→Bool
 | .aK=>true
 | .bl _=>true
 | .int _=>true
 | .str _=>true
 |_=>false
def kO:V→V→Bool
 | .aK,.aK=>true
 | .bl a,.bl b=>a==b
 | .bl a,.int b=>(if a then 1 else 0)==b
 | .int a,.bl b=>a==(if b then 1 else 0)
 | .int a,.int b=>a==b
 | .str a,.str b=>a==b
 |_,_=>false
theorem M8 {A:Around} {s:Shared} {y x:V} {u v:Value} (ry:RelV y u) (rx:RelV x v) (fy:gQ y=true) (fx:gQ x=true):SeqAt.EqAt A s u v (kO y x):=by
 cases y with
 |aK=>
  cases ry
  cases x with
  |aK=>cases rx;exact SeqAt.EqAt.same _
  |bl b=>cases rx;exact SeqAt.EqAt.none_bool b
  |int b=>obtain⟨t,rfl⟩:=rx;exact SeqAt.EqAt.none_int b t
  |str b=>obtain⟨t,rfl⟩:=rx;exact SeqAt.EqAt.none_str b t
  |_=>exact absurd (show false=true from fx) Bool.false_ne_true
 |bl a=>
  cases ry
  cases x with
  |aK=>cases rx;exact SeqAt.EqAt.bool_none a
  |bl b=>cases rx;exact SeqAt.EqAt.bool_bool a b
  |int b=>obtain⟨t,rfl⟩:=rx;exact SeqAt.EqAt.bool_int a b t
  |str b=>obtain⟨t,rfl⟩:=rx;exact SeqAt.EqAt.bool_str a b t
  |_=>exact absurd (show false=true from fx) Bool.false_ne_true
 |int a=>
  obtain⟨t',rfl⟩:=ry
  cases x with
  |aK=>cases rx;exact SeqAt.EqAt.int_none a t'
  |bl b=>cases rx;exact SeqAt.EqAt.int_bool a t' b
  |int b=>obtain⟨t,rfl⟩:=rx;exact SeqAt.EqAt.int_int a t' b t
  |str b=>obtain⟨t,rfl⟩:=rx;exact SeqAt.EqAt.int_str a t' b t
  |_=>exact absurd (show false=true from fx) Bool.false_ne_true
 |str a=>
  obtain⟨t',rfl⟩:=ry
  cases x with
  |aK=>cases rx;exact SeqAt.EqAt.str_none a t'
  |bl b=>cases rx;exact SeqAt.EqAt.str_bool a t' b
  |int b=>obtain⟨t,rfl⟩:=rx;exact SeqAt.EqAt.str_int a t' b t
  |str b=>obtain⟨t,rfl⟩:=rx;exact SeqAt.EqAt.str_str a t' b t
  |_=>exact absurd (show false=true from fx) Bool.false_ne_true
 |_=>exact absurd (show false=true from fy) Bool.false_ne_true
def gR (x:V) (u:Value):Bool:=match u with
 | .none=>kO .aK x
 | .bool b=>kO (.bl b) x
 | .int i _=>kO (.int i) x
 | .str z _=>kO (.str z) x
 |_=>false
theorem Gj {x y:V} {u:Value} (r:RelV y u) (f:gQ y=true):gR x u=kO y x:=by
 cases y with
 |aK=>cases r;rfl
 |bl b=>cases r;rfl
 |int i=>obtain⟨t,rfl⟩:=r;rfl
 |str z=>obtain⟨t,rfl⟩:=r;rfl
 |_=>exact absurd (show false=true from f) Bool.false_ne_true
theorem sZ {x:V}:∀{xs:List V} {us:List Value},Vals xs us→xs.all gQ=true→us.any (gR x)=xs.any fun y=>kO y x
 |_,_,.nil,_=>rfl
 |y::xs,u::us,.cons r t,f=>by
  rw[List.all_cons,Bool.and_eq_true]at f
  rw[List.any_cons,List.any_cons,Gj r f.1,sZ t f.2]
theorem tu {A:Around} {s:Shared} {x:V} {v:Value} (rx:RelV x v) (fx:gQ x=true):∀{xs:List V} {us:List Value},Vals xs us→xs.all gQ=true→∀u∈us,SeqAt.EqAt A s u v (gR x u)
 |_,_,.nil,_=>fun u hu=>by cases hu
 |y::xs,u::us,.cons r t,f=>fun u' hu=>by
  rw[List.all_cons,Bool.and_eq_true]at f
  rcases List.mem_cons.mp hu with rfl|hu
  ·rw[Gj r f.1];exact M8 r rx f.1 fx
  ·exact tu rx fx t f.2 u' hu
def c7 (x:V) (xs:List V):Bool:=xs.any fun y=>kO y x
def M9 (K:W.Frag) (neg:Bool):R2:=fun x y H Q=>∃p xs,y= .ref p∧(aJ K H p xs∨cI K H p xs)∧gQ x=true∧xs.all gQ=true∧Q (.bl (if neg then !c7 x xs else c7 x xs)) H
theorem Na:cG X (compareOp .In) (M9 X.K false):=by
 intro pins s σ H x y v u Q I rx ry h
 obtain⟨p,xs,rfl,hq,fx,fs,q⟩:=h
 cases ry
 rcases hq with hq|hq
 ·obtain⟨its,r,pl,hz⟩:=I.list hq
  refine SeqAt.in_listAt (gR x) pl.isList (fun w hw=>tu rx fx r fs w (by simpa using hw)) ⟨.bl _,H,I,rfl,?_⟩
  rw[show its.toArray.any (gR x)=its.any (gR x) by simp,sZ r fs]
  exact q
 ·obtain⟨its,r,pl,hz⟩:=I.tuple hq
  refine SeqAt.in_tupleAt (gR x) pl (fun w hw=>tu rx fx r fs w (by simpa using hw)) ⟨.bl _,H,I,rfl,?_⟩
  rw[show its.toArray.any (gR x)=its.any (gR x) by simp,sZ r fs]
  exact q
theorem eO:kM X (.builtin "len") (fun xs H Q=>∃p ys,xs=[.ref p]∧(aJ X.K H p ys∨cI X.K H p ys)∧Q (.int ys.length) H):=by
 intro pins s σ H xs us Q I r h
 obtain⟨p,ys,rfl,hq,q⟩:=h
 obtain⟨u,rfl,rx⟩:=vals1 r
 cases rx
 have hn:=sN
 rcases hq with hq|hq
 ·obtain⟨its,r',pl,hz⟩:=I.list hq
  have hlen:=r'.length
  exact Calls.call_len_list pl.isList (by simp only[List.size_toArray]<;>omega) ⟨.int ys.length,H,I.tok _,⟨s.toks+1,by rw[List.size_toArray,hlen]⟩,q⟩
 ·obtain⟨its,r',pl,hz⟩:=I.tuple hq
  have hlen:=r'.length
  exact len_tuple pl (by simp only[List.size_toArray]<;>omega) ⟨.int ys.length,H,I.tok _,⟨s.toks+1,by rw[List.size_toArray,hlen]⟩,q⟩
theorem pq:kM X (.type "list") (fun xs H Q=>∃p ys,xs=[.ref p]∧(aJ X.K H p ys∨cI X.K H p ys)∧∀l,H l=none→Q (.ref l) (upd H l (.lst ys))):=by
 intro pins s σ H xs us Q I r h
 obtain⟨p,ys,rfl,hq,q⟩:=h
 obtain⟨u,rfl,rx⟩:=vals1 r
 cases rx
 have fin:∀(its:List Value),Vals ys its→ys.length≤sizeLine→∀(h':Heap) (c':Nat),(∀b o',s.heap.get? b=some o'→h'.get? b=some o')→
   h'.get? s.heap.objs.size=some {cls:= .type "list",dict:=none,data:= .seq its.toArray c',slots:= #[]}→EP X pins σ Q (.ref s.heap.objs.size) {s with heap:=h'}:=fun its r' hz h' c' kp e=>
  ⟨.ref s.heap.objs.size,_,I.laid (t':=s.toks) kp (Nat.le_refl _) (show fQ X.prog X.w _ h' _ (.lst ys)from⟨hz,its,c',r',e⟩),rfl,q _ (I.hok.fresh (Nat.le_refl _))⟩
 rcases hq with hq|hq
 ·obtain⟨its,r',pl,hz⟩:=I.list hq
  have hlen:=r'.length
  obtain⟨o,ho,hc,n,hd⟩:=pl.isList
  exact call_list_seq p (.inl rfl) ho hc hd (fun h' c' kp e=>fin its r' hz h' c' kp e) (by simp only[List.size_toArray]<;>omega)
 ·obtain⟨its,r',pl,hz⟩:=I.tuple hq
  have hlen:=r'.length
  obtain⟨o,ho,hc,n,hd⟩:=pl
  exact call_list_seq p (.inr rfl) ho hc hd (fun h' c' kp e=>fin its r' hz h' c' kp e) (by simp only[List.size_toArray]<;>omega)
def Ck (K:W.Frag) (T:String) (x:V) (H:Hp):Prop:=match x with
 | .str _=>T="str"
 | .int _=>T="int"
 | .ref p=>(T="list"∧∃xs,aJ K H p xs)∨(T="tuple"∧∃o,K.lookup p=some o∧o.cls= .type "tuple"∧o.dict=none)∨
   (T="dict"∧((∃kvs,H p=some (.dK kvs))∨∃kvs,H p=some (.dT kvs)))∨(T="set"∧∃S n,H p=some (.set S n))
 |_=>False
theorem Gk {pins:List (Addr×Obj)} {σ:St} {H:Hp} {s:Shared} {T:String} {x:V} {v:Value} (I:Inv X pins σ H s) (r:RelV x v) (ty:Ck X.K T x H):
  s.TypeIs v T∧∀a,v= .ref a→∃ob,s.heap.get? a=some ob∧ob.dict=none:=by
 cases x with
 |str z=>
  obtain⟨t,rfl⟩:=r
  cases(show T="str" from ty)
  exact⟨typeIs_str s z t,fun _ e=>nomatch e⟩
 |int i=>
  obtain⟨t,rfl⟩:=r
  cases(show T="int" from ty)
  exact⟨typeIs_int s i t,fun _ e=>nomatch e⟩
 |ref p=>
  cases r
  rcases ty with⟨rfl,xs,hq⟩|⟨rfl,o,hk,hc,hd⟩|⟨rfl,hk⟩|⟨rfl,S,n,hk⟩
  ·obtain⟨its,_,pl,_⟩:=I.list hq
   refine⟨pl.isList.typeIs,fun a e=>?_⟩
   cases e
   obtain⟨o,n,e,c,hd,_⟩:=pl
   exact⟨o,e,hd⟩
  ·refine⟨⟨o,I.fD p o hk,hc⟩,fun a e=>?_⟩
   cases e
   exact⟨o,I.fD _ o hk,hd⟩
  ·have z:∃o,s.heap.get? p=some o∧o.ExactDict:=by
    rcases hk with⟨kvs,hk⟩|⟨kvs,hk⟩
    ·obtain⟨_,_,_,_,o,_,_,e,ex,_⟩:=I.hok p _ hk
     exact⟨o,e,ex⟩
    ·obtain⟨_,_,_,_,o,_,_,e,ex,_⟩:=I.hok p _ hk
     exact⟨o,e,ex⟩
   obtain⟨o,e,ex⟩:=z
   refine⟨⟨o,e,ex.1⟩,fun a e2=>?_⟩
   cases e2
   exact⟨o,e,ex.2.1⟩
  ·obtain⟨o,_,_,_,e,ex,_⟩:=I.hok p _ hk
   refine⟨⟨o,e,ex.1⟩,fun a e2=>?_⟩
   cases e2
   exact⟨o,e,ex.2.1⟩
 |_=>exact False.elim ty
def Nb (K:W.Frag) (T:String) (r:V→List V→Hp→VK→Prop) (to:TE):TE:=fun σ H Q=>to σ H fun x H1=>Ck K T x H1∧r x [] H1 Q
def wg (K:W.Frag) (T:String) (r:V→List V→Hp→VK→Prop) (to:TE) (t:TA):TE:=fun σ H Q=>to σ H fun x H1=>Ck K T x H1∧t σ H1 fun xs H2=>r x xs H2 Q
variable {o e:Expr} {es:List Expr} {to:TE} {t:TA} {name:Str} {apos cpos:Pos} {T id:String} {r:V→List V→Hp→VK→Prop}
theorem Nc (pa:PlainAttrs T) (slot:Slot T name id) (hty:typeOf (.builtin id)=pure (.type "method_descriptor")) (hm:Ci X id r) (ho:PE X o to)
  (hbase:attributeBase o name X.env (eval o X.env)=eval o X.env:=by kernel_rfl) (hline:(apos.endLine==cpos.line)=true:=by rfl):PE X (.Call (.Attribute o name apos) [] [] cpos) (Nb X.K T r to):=by
 intro pins s σ H Q I h
 refine wpAny_Call_method0_late hbase hline (aV (ho pins s σ H _ I h) fun v s1 zq0=>?_)
 obtain⟨x,H1,I1,r1,ty,q1⟩:=zq0
 obtain⟨h1,h2⟩:=Gk I1 r1 ty
 exact⟨T,id,pa,slot,hty,h1,h2,Calls.callWith_builtin rfl (PySem.evalArgs_none (hm pins s1 σ H1 x [] v [] Q I1 r1 .nil q1))⟩
theorem tw (pa:PlainAttrs T) (slot:Slot T name id) (hty:typeOf (.builtin id)=pure (.type "method_descriptor")) (hm:Ci X id r) (ho:PE X o to) (ha:PA X (e::es) t)
  (hbase:attributeBase o name X.env (eval o X.env)=eval o X.env:=by kernel_rfl)
  (hfew:((backTo cpos (starEach (e::es) X.env)).all (fun x=> !x.1)&&(backToKw cpos (keywordEach [] X.env)).all (fun x=>x.1.isSome)
   &&decide ((e::es).length+([]:List Keyword).length+(if([]:List Keyword).isEmpty then 0 else 1)<30))=true:=by rfl)
  (hline:(apos.endLine==cpos.line)=true:=by rfl) (hs:starEach (e::es) X.env=(false,eval e X.env)::starEach es X.env:=by rfl) (hplain:(backTo cpos (starEach es X.env)).any (·.1)=false:=by rfl):
  PE X (.Call (.Attribute o name apos) (e::es) [] cpos) (wg X.K T r to t):=by
 intro pins s σ H Q I h
 refine wpAny_Call_method_late hbase hfew hline rfl (aV (ho pins s σ H _ I h) fun v s1 zq0=>?_)
 obtain⟨x,H1,I1,r1,ty,q1⟩:=zq0
 obtain⟨h1,h2⟩:=Gk I1 r1 ty
 refine⟨T,id,pa,slot,hty,h1,h2,?_⟩
 have hA:=ha cpos pins s1 σ H1 _ I1 q1
 rw[hs]at hA ⊢
 refine Calls.callWith_builtin (by show(false||(backTo cpos (starEach es X.env)).any (·.1))=false;rw[hplain]<;>rfl) (Calls.evalArgs_plain ?_)
 exact aV hA fun us s2 ⟨vs,H2,I2,r2,q2⟩=>hm pins s2 σ H2 x vs v us Q I2 r1 r2 q2
end
def Gm (X:Cx) (id:String) (r:V→List V→Hp→VK→Prop):Prop:=
 ∀(pins:List (Addr×Obj)) (s:Shared) (σ:St) (H:Hp) (x:V) (xs:List V) (v:Value) (us:List Value) (Q:VK),Inv X pins σ H s→RelV x v→Vals xs us→r x xs H Q→
  wpAny (model X.prog X.w) X.A (call (.builtin id) (v::us)) (EP X pins σ Q) X.xe s
theorem Vals.one:∀{x:V} {us:List Value},Vals [x] us→∃u,us=[u]∧RelV x u
 |_,_,.cons r .nil=>⟨_,rfl,r⟩
theorem Vals.rep {xs:List V} {us:List Value} (h:Vals xs us):∀k:Nat,Vals (List.replicate k xs).flatten (List.replicate k us).flatten
 |0=> .nil
 |k+1=>by
  rw[List.replicate_succ,List.replicate_succ,List.flatten_cons,List.flatten_cons]
  exact Vals.append h (Vals.rep h k)
theorem foldl_rep (its:List Value):∀(k:Nat) (acc:List Value),
  List.foldl (fun x1 x2=>x1++x2) acc.toArray (List.replicate k its.toArray)=(acc++(List.replicate k its).flatten).toArray
 |0,acc=>by simp
 |k+1,acc=>by
  have e:acc.toArray++its.toArray=(acc++its).toArray:=by simp
  have e2:(acc++its)++(List.replicate k its).flatten=acc++(List.replicate (k+1) its).flatten:=by
   rw[List.replicate_succ,List.flatten_cons,List.append_assoc]
  rw[←e2,←foldl_rep its k (acc++its),←e,List.replicate_succ,List.foldl_cons]
section
variable {X:Cx} {pins:List (Addr×Obj)} {σ:St} {H:Hp} {s:Shared} {l b:Addr} {xs ys zs:List V}
theorem Inv.Gn {its its':List Value} {n:Nat} {f:Array Value→Array Value} {t':Nat} (I:Inv X pins σ H s) (hH:H l=some (.lst xs))
  (e:s.heap.get? l=some {cls:= .type "list",data:= .seq its.toArray n}) (hf:f its.toArray=its'.toArray) (hv:Vals ys its') (hz:ys.length≤sizeLine):
  Inv X pins σ (upd H l (.lst ys)) {s with heap:=s.heap.update l (Obj.mapSeq f),toks:=t'}:=by
 have q:=PySem.IsL.update e f
 rw[hf]at q
 refine I.write (x:=l) (e:=l) (by rw[hH];exact trivial) (.inl rfl) (fun b' u hb hu=>(Heap.get?_update_other s.heap (Obj.mapSeq f) (Ne.symm hb)).trans hu) ⟨_,q⟩ ?_
 exact⟨hz,its',_,hv,q⟩
theorem Inv.Gp {its:List Value} {t':Nat} (I:Inv X pins σ H s) (hv:Vals ys its) (hz:ys.length≤sizeLine):
  Inv X pins σ (upd H s.heap.objs.size (.lst ys)) {s with heap:=s.heap.push {cls:= .type "list",data:= .seq its.toArray},toks:=t'}:=
 I.laid (fun _ _ q=>Heap.get?_push_of_some _ q) (Nat.le_refl _) ⟨hz,its,0,hv,Heap.get?_push_size _ rfl⟩
theorem Inv.fresh (I:Inv X pins σ H s):H s.heap.objs.size=none:=I.hok.fresh (Nat.le_refl _)
theorem Inv.qN (I:Inv X pins σ H s) (hH:H l=some (.lst xs)):xs.length≤sizeLine∧∃(its:List Value) (n:Nat),Vals xs its∧xs.length=its.length∧s.heap.get? l=some {cls:= .type "list",data:= .seq its.toArray n}:=by
 obtain⟨z,its,n,r,e⟩:=I.hok l _ hH
 exact⟨z,its,n,r,r.length,e⟩
theorem Gq {n:Nat} (h:n≤sizeLine):Builtin.List.listTooLong n=false:=by
 unfold Builtin.List.listTooLong
 exact decide_eq_false (by omega)
end
section
variable {X:Cx}
def Cn:V→List V→Hp→VK→Prop:=fun x vs H Q=>∃l xs y,x= .ref l∧vs=[y]∧H l=some (.lst xs)∧xs.length<sizeLine∧Q .aK (upd H l (.lst (xs++[y])))
theorem Co:Gm X "list.append" Cn:=by
 intro pins s σ H x vs v us Q I rx rv h
 obtain⟨l,xs,y,rfl,rfl,hH,hz,q⟩:=h
 cases rx
 obtain⟨u,rfl,ru⟩:=rv.one
 obtain⟨z,its,n,r,hl,e⟩:=I.qN hH
 refine call_meets F.slot_list_append ⟨_,e,rfl⟩ F.entry_list_append (F.args_list_append_2 _ _) (PySem.list_append l its.toArray n u (by rw[List.size_toArray];omega)) ⟨e,?_⟩
 refine⟨.aK,_,I.Gn (its':=its++[u]) hH e (by simp) (r.append (.cons ru .nil)) ?_,rfl,q⟩
 rw[List.length_append,List.length_singleton]
 omega
def Gr:V→List V→Hp→VK→Prop:=fun x vs H Q=>∃l b xs zs,x= .ref l∧vs=[.ref b]∧H l=some (.lst xs)∧H b=some (.lst zs)∧xs.length+zs.length≤sizeLine∧Q .aK (upd H l (.lst (xs++zs)))
theorem Gs:Gm X "list.extend" Gr:=by
 intro pins s σ H x vs v us Q I rx rv h
 obtain⟨l,b,xs,zs,rfl,rfl,hH,hB,hz,q⟩:=h
 cases rx
 obtain⟨u,rfl,ru⟩:=rv.one
 cases ru
 obtain⟨z,its,n,r,hl,e⟩:=I.qN hH
 obtain⟨z2,its2,n2,r2,hl2,e2⟩:=I.qN hB
 have hsz:its.toArray.size+its2.toArray.size≤sizeLine:=by rw[List.size_toArray,List.size_toArray];omega
 have Cp:¬(!its.toArray.isEmpty&&Builtin.List.listTooLong (its.toArray.size+its2.toArray.size))=true:=by
  rw[Gq hsz,Bool.and_false]
  exact Bool.false_ne_true
 refine call_meets F.slot_list_extend ⟨_,e,rfl⟩ F.entry_list_extend (F.args_list_extend_2 _ _)
  (AutoSeq1.list_extend_list_list_0 l its.toArray n b its2.toArray n2 Cp (by rw[List.size_toArray];omega) (by omega)) ⟨e,e2,?_⟩
 refine⟨.aK,_,I.Gn (its':=its++its2) hH e (by simp) (r.append r2) ?_,rfl,q⟩
 rw[List.length_append]
 omega
def qO:R2:=fun x y H Q=>∃l b xs zs,x= .ref l∧y= .ref b∧H l=some (.lst xs)∧H b=some (.lst zs)∧xs.length+zs.length≤sizeLine∧∀p,H p=none→Q (.ref p) (upd H p (.lst (xs++zs)))
theorem qP:cG X (binaryOp .Add) qO:=by
 intro pins s σ H x y v u Q I rx ry h
 obtain⟨l,b,xs,zs,rfl,rfl,hH,hB,hz,q⟩:=h
 cases rx
 cases ry
 obtain⟨z,its,n,r,hl,e⟩:=I.qN hH
 obtain⟨z2,its2,n2,r2,hl2,e2⟩:=I.qN hB
 refine PySem.P.add_list e e2 ?_ (by rw[List.size_toArray,List.size_toArray];omega)
 have ea:its.toArray++its2.toArray=(its++its2).toArray:=by simp
 rw[ea]
 exact⟨.ref _,_,I.Gp (t':=s.toks) (r.append r2) (by rw[List.length_append];omega),rfl,q _ I.fresh⟩
def Nd:R2:=fun x y H Q=>∃l k xs,x= .ref l∧y= .int k∧H l=some (.lst xs)∧ -(2^63)≤k∧k<2^63∧xs.length*k.toNat≤sizeLine∧
 ∀p,H p=none→Q (.ref p) (upd H p (.lst (List.replicate k.toNat xs).flatten))
theorem len_rep {α:Type} (xs:List α) (k:Nat):(List.replicate k xs).flatten.length=k*xs.length:=by
 induction k with
 |zero=>simp
 |succ k ih=>rw[List.replicate_succ,List.flatten_cons,List.length_append,ih,Nat.succ_mul,Nat.add_comm]
theorem Cq:cG X (binaryOp .Mult) Nd:=by
 intro pins s σ H x y v u Q I rx ry h
 obtain⟨l,k,xs,rfl,rfl,hH,h1,h2,hz,q⟩:=h
 cases rx
 obtain⟨t,rfl⟩:=ry
 obtain⟨z,its,n,r,hl,e⟩:=I.qN hH
 have hlen:its.toArray.size*k.toNat≤sizeLine:=by rw[List.size_toArray,←hl];exact hz
 have hcap:¬its.toArray.size*k.toNat>(2^63-1)/8:=by
  have:(sizeLine:Nat)≤(2^63-1)/8:=by decide
  omega
 have hfit:¬(!Builtin.List.listFitsIndex k)=true:=by
  rw[fitsIndex_both h1 h2]
  exact Bool.false_ne_true
 have Cp:¬Builtin.List.listTooLong (its.toArray.size*k.toNat)=true:=by
  rw[Gq hlen]
  exact Bool.false_ne_true
 have hnew:List.foldl (fun x1 x2=>x1++x2) #[] (List.replicate (if its.toArray.isEmpty=true then 0 else k.toNat) its.toArray)=(List.replicate k.toNat its).flatten.toArray:=by
  have f0:∀m:Nat,List.foldl (fun x1 x2=>x1++x2) #[] (List.replicate m its.toArray)=(List.replicate m its).flatten.toArray:=fun m=>by
   have:=foldl_rep its m []
   rw[List.nil_append]at this
   exact this
  rw[f0]
  cases its with
  |nil=>simp
  |cons a r'=>rw[if_neg (by simp)]
 refine wpAny_binaryOp_repeat_ref (T:="list") (U:="int") (by decide) ⟨_,e,rfl⟩ (fun s'=>typeIs_int s' k t) noFill_list_mul F.fills_int_mul F.slot_int_rmul repeat_list F.slot_int_index.lookup
  (call_meets F.slot_int_rmul (typeIs_int s k t) F.entry_int_rmul (F.args_int_rmul_2 _ _) (int___rmul___int_list k t l its.toArray n)
   ⟨e,rfl,⟨_,e,rfl⟩,call_meets F.slot_list_mul ⟨_,e,rfl⟩ F.entry_list_mul (F.args_list_mul_2 _ _) (AutoListH.list___mul___list_int_3 l its.toArray n k t hfit hcap Cp) ⟨e,?_⟩⟩)
 rw[hnew]
 exact⟨.ref _,_,I.Gp (t':=s.toks) (r.rep k.toNat) (by rw[len_rep,Nat.mul_comm];exact hz),rfl,q _ I.fresh⟩
end
theorem Vals.Gu:∀{bs:List Bool} {us:List Value},Vals (bs.map V.bl) us→us=bs.map Value.bool
 |[],us,h=>by
  rw[List.map_nil]at h
  cases h
  rfl
 |b::bs,us,h=>by
  rw[List.map_cons]at h
  cases h with
  |cons r t=>
   cases r
   rw[Vals.Gu t,List.map_cons]
theorem Vals.Nf {a:Addr} {us:List Value} (r:Vals [V.ref a] us):us=[Value.ref a]:=by
 cases r with
 |cons r t=>
  cases t
  cases r
  rfl
theorem Ng {prog:Program} {w:World} {A:Around} {E:Value→Shared→Prop} {s:Shared} {l:Addr} {items:Array Value} {Q:Value→Shared→Prop} (hl:s.heap.IsList l items)
  (h:∀s₂:Shared,s₂={s with heap:=s.heap.push {cls:= .type "list_iterator",data:= .fields #[.ref l,.int 0 0]}}→
   (s₂.heap.IsListIter s.heap.objs.size l 0∧s₂.heap.IsList l items)→l≠s.heap.objs.size→Q (.ref s.heap.objs.size) s₂):wpAny (model prog w) A (pyIter (.ref l)) Q E s:=by
 have hlt:l<s.heap.objs.size:=by obtain⟨_,e,_⟩:=hl;exact Heap.lt_size e
 exact wpAny_pyIter_list hl (h _ rfl ⟨⟨_,Heap.get?_push_size _ rfl,rfl,rfl⟩,hl.push _⟩ (Nat.ne_of_lt hlt))
theorem Nh {prog:Program} {w:World} {A:Around} {bs:List Bool} {its:List Value} (e:its=bs.map Value.bool):
  TruthOf prog w A (fun i v=>its.toArray[i]? =some v) (fun i=>bs.getD i false):=fun i v s Q E hv hq=>by
 have hv':its[i]? =some v:=by simpa using hv
 rw[e,List.getElem?_map]at hv'
 obtain⟨b,hb,rfl⟩:=Option.map_eq_some_iff.mp hv'
 have hg:bs.getD i false=b:=by rw[List.getD_eq_getElem?_getD,hb]<;>rfl
 have hq':Q (bs.getD i false) s:=hq
 rw[hg]at hq'
 exact wpAny_truthy_bool hq'
theorem any_range:∀bs:List Bool,(List.range bs.length).any (fun i=>bs.getD i false)=bs.any id
 |[]=>rfl
 |b::bs=>by
  rw[List.length_cons,List.range_succ_eq_map,List.any_cons,List.any_map,List.any_cons,←any_range bs]
  all_goals rfl
theorem all_range:∀bs:List Bool,(List.range bs.length).all (fun i=>bs.getD i false)=bs.all id
 |[]=>rfl
 |b::bs=>by
  rw[List.length_cons,List.range_succ_eq_map,List.all_cons,List.all_map,List.all_cons,←all_range bs]
  all_goals rfl
section
variable {X:Cx}
def Ni (K:W.Frag):List V→Hp→VK→Prop:=fun vs H Q=>∃(a:Addr) (bs:List Bool),vs=[V.ref a]∧aJ K H a (bs.map V.bl)∧Q (.bl (bs.all id)) H
theorem Cr (hc:X.calm=true):kM X (.builtin "all") (Ni X.K):=by
 intro pins s σ H vs us Q I r h
 obtain⟨a,bs,rfl,hs,q⟩:=h
 obtain⟨its,rv,hl,_⟩:=I.list hs
 rw[Vals.Nf r]
 have hb:=rv.Gu
 refine call_all_walk (Ng hl.isList fun s₂ e2 st hne=>?_)
 subst e2
 refine⟨_,_,_,_,_,_,_,rfl,Walks.list (A:=X.A.in1) (I.ok.hd hc) _ a hne its.toArray,st,Nh hb,fun h' tk hk=>?_⟩
 refine⟨.bl _,H,I.kept fun b o eo=>hk b o (fun hmem=>?_) (Heap.get?_push_of_some _ eo),?_,q⟩
 ·rcases List.mem_cons.mp hmem with e1|hmem
  ·exact absurd (e1▸Heap.lt_size eo) (Nat.lt_irrefl _)
  ·cases hmem
 ·show Value.bool _=Value.bool _
  rw[←all_range,hb,List.size_toArray,List.length_map]
end
mutual
inductive Dp (K:W.Frag) (H:Hp):V→PyData→Prop
 |aK:Dp K H .aK .none
 |bl (b:Bool):Dp K H (.bl b) (.bool b)
 |int (i:Int):Dp K H (.int i) (.int i)
 |str (x:Str):Dp K H (.str x) (.str x)
 |lst {a:Addr} {xs:List V} {ds:List PyData}:aJ K H a xs→qQ K H xs ds→Dp K H (.ref a) (.list ds)
 |tup {a:Addr} {xs:List V} {ds:List PyData}:cI K H a xs→qQ K H xs ds→Dp K H (.ref a) (.tuple ds)
inductive qQ (K:W.Frag) (H:Hp):List V→List PyData→Prop
 |nil:qQ K H [] []
 |cons {v:V} {vs:List V} {d:PyData} {ds:List PyData}:Dp K H v d→qQ K H vs ds→qQ K H (v::vs) (d::ds)
end
section
variable {X:Cx} {pins:List (Addr×Obj)} {σ:St} {H:Hp} {s:Shared}
mutual
theorem Dp.reads (I:Inv X pins σ H s):∀(d:PyData) (v:V) (u:Value),Dp X.K H v d→RelV v u→∃as,Reads s.heap u d as
 | .none,_,_,h,r=>by
  cases h
  cases r
  exact⟨_,Reads.none⟩
 | .bool b,_,_,h,r=>by
  cases h
  cases r
  exact⟨_,Reads.bool b⟩
 | .int i,_,_,h,r=>by
  cases h
  obtain⟨t,rfl⟩:=r
  exact⟨_,Reads.int i t⟩
 | .str x,_,_,h,r=>by
  cases h
  obtain⟨t,rfl⟩:=r
  exact⟨_,Reads.str x t⟩
 | .list ds,_,_,h,r=>by
  cases h with
  |lst hs ha=>
   cases r
   obtain⟨its,rv,⟨o,n,ho,hc,_,hd⟩,_⟩:=I.list hs
   obtain⟨as,hr⟩:=Dp.readsAll I ds _ its ha rv
   exact⟨_,Reads.list ho hc hd hr⟩
 | .tuple ds,_,_,h,r=>by
  cases h with
  |tup hs ha=>
   cases r
   obtain⟨its,rv,⟨o,ho,hc,n,hd⟩,_⟩:=I.tuple hs
   obtain⟨as,hr⟩:=Dp.readsAll I ds _ its ha rv
   exact⟨_,Reads.tuple ho hc hd hr⟩
 | .dict _,_,_,h,_=>by cases h
theorem Dp.readsAll (I:Inv X pins σ H s):∀(ds:List PyData) (vs:List V) (us:List Value),qQ X.K H vs ds→Vals vs us→∃as,ReadsAll s.heap us ds as
 |[],_,_,h,r=>by
  cases h
  cases r
  exact⟨_,ReadsAll.nil⟩
 |d::ds,_,_,h,r=>by
  cases h with
  |cons h1 h2=>
   cases r with
   |cons r1 r2=>
    obtain⟨as,q1⟩:=Dp.reads I d _ _ h1 r1
    obtain⟨bs,q2⟩:=Dp.readsAll I ds _ _ h2 r2
    exact⟨_,ReadsAll.cons q1 q2⟩
end
end
section
variable {X:Cx}
def Nj (K:W.Frag):R2:=fun x y H Q=>∃d e,Dp K H x d∧Dp K H y e∧SeqAt.shaped d=true∧SeqAt.shaped e=true∧Q (.bl (PyData.eqv d e)) H
theorem Nk (hu:X.A.units+64<cLine):cG X (compareOp .Eq) (Nj X.K):=by
 intro pins s σ H x y v u Q I rx ry h
 obtain⟨d,e,hd,he,sd,se,q⟩:=h
 obtain⟨as,r1⟩:=Dp.reads I d x v hd rx
 obtain⟨bs,r2⟩:=Dp.reads I e y u he ry
 exact SeqAt.compareEq_shaped r1 r2 sd se hu ⟨.bl _,H,I,rfl,q⟩
end
abbrev Gv (h:Heap) (c:Addr) (v:Option Value):Prop:=h.IsCell c v
def Nl (scope sc:Scope):Scope:=
 {scope with names:=scope.names.map fun(n,k)=>if(k== .free&&sc.kind== .function&&sc.names.lookup n==some .cell)then(n,.cell)else(n,k)}
def eS (cells:List (Str×Addr)):List (Str×NameKind)→List (Str×Addr)→List (Str×Addr)
 |[],acc=>acc
 |(n,k)::r,acc=>if k== .free then eS cells r ((n,(cells.lookup n).getD 0)::acc)else eS cells r acc
theorem Gw (env:Env) (f:Str×NameKind→List (Str×Addr)→Sem (ForInStep (List (Str×Addr))))
  (hf:∀n k c,f (n,k) c=if k== .free then(do let a ←cellOf env n;pure (.yield ((n,a)::c)))else pure (.yield c)):
  ∀(names:List (Str×NameKind)) (acc:List (Str×Addr)),(∀y∈names,y.2= .free→∃c,env.cells.lookup y.1=some c)→forIn names acc f=pure (eS env.cells names acc)
 |[],acc,_=>by rw[List.forIn_nil];rfl
 |(n,k)::r,acc,h=>by
  rw[List.forIn_cons,hf]
  have ih:=fun acc=>Gw env f hf r acc fun y hy=>h y (List.mem_cons_of_mem _ hy)
  unfold eS
  by_cases hk:(k==NameKind.free)=true
  ·rw[if_pos hk,if_pos hk]
   obtain⟨c,hc⟩:=h (n,k) List.mem_cons_self (by simpa using hk)
   have e:cellOf env n=pure c:=by unfold cellOf;rw[hc]
   rw[e]
   have e2:(env.cells.lookup n).getD 0=c:=by rw[hc];rfl
   rw[e2]
   exact ih _
  ·rw[if_neg hk,if_neg hk]
   exact ih _
theorem Nm {scope:Scope} {env:Env} (h:∀y∈scope.names,y.2= .free→∃c,env.cells.lookup y.1=some c):closureFor scope env=pure (eS env.cells scope.names []):=by
 simp only[closureFor]
 rw[Gw env _ (fun n k c=>rfl) scope.names [] h]
 rfl
theorem mem_lookup {α:Type}:∀{l:List (Str×α)} {n:Str} {c:α},(n,c)∈l→∃c',l.lookup n=some c'
 |(k,v)::r,n,c,h=>by
  rw[List.lookup_cons]
  cases hb:n==k with
  |true=>exact⟨_,rfl⟩
  |false=>
   rcases List.mem_cons.mp h with e|h
   ·cases e;simp at hb
   ·exact mem_lookup h
theorem wj {cells:List (Str×Addr)}:∀{names:List (Str×NameKind)} {acc:List (Str×Addr)} {n:Str} {c:Addr},(n,c)∈eS cells names acc→(n,c)∈acc∨((n,.free)∈names∧c=(cells.lookup n).getD 0)
 |[],_,_,_,h=> .inl h
 |(m,k)::r,acc,n,c,h=>by
  unfold eS at h
  split at h
  ·rename_i hk
   have hk:k= .free:=by simpa using hk
   rcases wj h with h|⟨h1,h2⟩
   ·rcases List.mem_cons.mp h with e|h
    ·cases e;exact .inr ⟨hk▸List.mem_cons_self,rfl⟩
    ·exact .inl h
   ·exact .inr ⟨List.mem_cons_of_mem _ h1,h2⟩
  ·rcases wj h with h|⟨h1,h2⟩
   ·exact .inl h
   ·exact .inr ⟨List.mem_cons_of_mem _ h1,h2⟩
theorem Cs {cells:List (Str×Addr)}:∀{names:List (Str×NameKind)} {acc:List (Str×Addr)} {p:Str×Addr},p∈acc→p∈eS cells names acc
 |[],_,_,h=>h
 |(m,k)::r,acc,p,h=>by
  unfold eS
  split
  ·exact Cs (List.mem_cons_of_mem _ h)
  ·exact Cs h
theorem Ct {cells:List (Str×Addr)}:∀{names:List (Str×NameKind)} {acc:List (Str×Addr)} {n:Str},(n,.free)∈names→(n,(cells.lookup n).getD 0)∈eS cells names acc
 |(m,k)::r,acc,n,h=>by
  unfold eS
  rcases List.mem_cons.mp h with e|h
  ·cases e
   exact Cs List.mem_cons_self
  ·split
   ·exact Ct h
   ·exact Ct h
theorem tD:∀{names:List (Str×NameKind)} {h:Heap} {acc:List (Str×Addr)} {x:Str} {c:Addr},(x,c)∈cellsFrom h.objs.size names acc→
  (x,c)∈acc∨((x,.cell)∈names∧h.objs.size≤c∧Gv (pushCells h names) c none)
 |[],_,_,_,_,h=> .inl h
 |(n,k)::r,h,acc,x,c,hm=>by
  unfold cellsFrom at hm
  unfold pushCells
  split at hm
  ·rename_i hk
   rw[if_pos hk]
   have hk:k= .cell:=by simpa using hk
   rw[←Heap.size_push h {cls:= .type "cell",data:= .cell none}]at hm
   rcases tD hm with hm|⟨h1,h2,h3⟩
   ·rcases List.mem_cons.mp hm with e|hm
    ·cases e
     exact .inr ⟨hk▸List.mem_cons_self,Nat.le_refl _,_,pushCells_keeps r _ _ _ (Heap.get?_push_size _ rfl),rfl⟩
    ·exact .inl hm
   ·rw[Heap.size_push]at h2
    exact .inr ⟨List.mem_cons_of_mem _ h1,Nat.le_of_succ_le h2,h3⟩
  ·rename_i hk
   rw[if_neg hk]
   rcases tD hm with hm|⟨h1,h2,h3⟩
   ·exact .inl hm
   ·exact .inr ⟨List.mem_cons_of_mem _ h1,h2,h3⟩
theorem wk:∀{names:List (Str×NameKind)} {n:Nat} {acc:List (Str×Addr)} {p:Str×Addr},p∈acc→p∈cellsFrom n names acc
 |[],_,_,_,h=>h
 |(m,k)::r,n,acc,p,h=>by
  unfold cellsFrom
  split
  ·exact wk (List.mem_cons_of_mem _ h)
  ·exact wk h
theorem Cu:∀{names:List (Str×NameKind)} {n:Nat} {acc:List (Str×Addr)} {x:Str},(x,.cell)∈names→∃c,(x,c)∈cellsFrom n names acc
 |(m,k)::r,n,acc,x,h=>by
  unfold cellsFrom
  rcases List.mem_cons.mp h with e|h
  ·cases e
   exact⟨n,wk List.mem_cons_self⟩
  ·split
   ·exact Cu h
   ·exact Cu h
theorem Cv:∀{names:List (Str×NameKind)} {h:Heap} {acc:List (Str×Addr)} {x y:Str} {c:Addr},(∀p∈acc,p.2<h.objs.size)→(∀x y c,(x,c)∈acc→(y,c)∈acc→x=y)→
  (x,c)∈cellsFrom h.objs.size names acc→(y,c)∈cellsFrom h.objs.size names acc→x=y
 |[],_,_,_,_,_,_,hi,h1,h2=>hi _ _ _ h1 h2
 |(n,k)::r,h,acc,x,y,c,hl,hi,h1,h2=>by
  unfold cellsFrom at h1 h2
  split at h1
  ·rename_i hk
   rw[if_pos hk]at h2
   rw[←Heap.size_push h {cls:= .type "cell",data:= .cell none}]at h1 h2
   refine Cv (h:=h.push _) (fun p hp=>?_) (fun x y c a b=>?_) h1 h2
   ·rw[Heap.size_push]
    rcases List.mem_cons.mp hp with rfl|hp
    ·exact Nat.lt_succ_self _
    ·exact Nat.lt_succ_of_lt (hl p hp)
   ·rcases List.mem_cons.mp a with e|a<;>rcases List.mem_cons.mp b with e'|b
    ·cases e;cases e';rfl
    ·cases e;exact absurd (hl _ b) (Nat.lt_irrefl _)
    ·cases e';exact absurd (hl _ a) (Nat.lt_irrefl _)
    ·exact hi _ _ _ a b
  ·rename_i hk
   rw[if_neg hk]at h2
   exact Cv hl hi h1 h2
theorem Nn {M:Model} {A:Around} {E:Value→Shared→Prop} {s:Shared} {scope:Scope} {globals:Addr} {closure:List (Str×Addr)} {qual:Str} {func:Option Addr} {code:Value} {around:Env} {builtins:Addr} {Q:Env→Shared→Prop}
  (h:Q (newEnv scope s.heap.objs.size globals (cellsFrom (s.heap.objs.size+1) scope.names closure) qual func code (some around) builtins)
   {s with heap:=pushCells (s.heap.push {cls:= .type "dict",data:= .dict #[]}) scope.names}):
  wpAny M A (newFunctionEnv scope globals closure [] qual func code (some around) builtins) Q E s:=by
 simp only[newFunctionEnv,Option.isSome_some,if_true]
 refine wpAny_bind (wpAny_alloc ?_)
 refine wpAny_bind (wpAny_layCells _ (fun n k c=>rfl) scope.names closure _ _ ?_)
 rw[show({s with heap:=s.heap.push {cls:= .type "dict",data:= .dict #[]}}:Shared).heap.objs.size=s.heap.objs.size+1 from Heap.size_push ..]
 rw[List.forIn_nil]
 exact wpAny_bind (wpAny_pure (wpAny_pure h))
theorem Cw {sc:Scope}:∀{names:List (Str×NameKind)} {x:Str} {k:NameKind},
  (names.map fun(n,k)=>if(k==NameKind.free&&sc.kind== .function&&sc.names.lookup n==some .cell)then(n,NameKind.cell)else(n,k)).lookup x=some k→
  ∃k',names.lookup x=some k'∧(k=k'∨(k'= .free∧k= .cell))
 |[],_,_,h=>by simp at h
 |(n,k₀)::r,x,k,h=>by
  have ih:=@Cw sc r x k
  have h':List.lookup x ((if(k₀==NameKind.free&&sc.kind== .function&&sc.names.lookup n==some .cell)=true then(n,NameKind.cell)else(n,k₀))::(r.map _))=some k:=h
  cases hx:x==n with
  |true=>
   simp only[List.lookup_cons,hx]
   by_cases hc:(k₀==NameKind.free&&sc.kind== .function&&sc.names.lookup n==some .cell)=true
   ·rw[if_pos hc]at h'
    simp only[List.lookup_cons,hx]at h'
    cases h'
    simp only[Bool.and_eq_true,beq_iff_eq]at hc
    exact⟨k₀,rfl,.inr ⟨hc.1.1,rfl⟩⟩
   ·rw[if_neg hc]at h'
    simp only[List.lookup_cons,hx]at h'
    cases h'
    exact⟨_,rfl,.inl rfl⟩
  |false=>
   simp only[List.lookup_cons,hx]
   by_cases hc:(k₀==NameKind.free&&sc.kind== .function&&sc.names.lookup n==some .cell)=true
   ·rw[if_pos hc]at h'
    simp only[List.lookup_cons,hx]at h'
    exact ih h'
   ·rw[if_neg hc]at h'
    simp only[List.lookup_cons,hx]at h'
    exact ih h'
structure wm (N:List Str) (sc scope:Scope) (own:List (Str×Nat)):Prop where
 kind:scope.kind= .function
 uniq:∀y∈scope.names,scope.names.lookup y.1=some y.2
 ix:∀p∈own,N[p.2]? =some p.1
 free:∀y∈scope.names,y.2= .free→sc.names.lookup y.1=some .cell∨sc.names.lookup y.1=some .free
 own:∀y∈scope.names,y.2= .local∨y.2= .cell→y.1∈own.map (·.1)∨y.1 ∉ N
def wipe (σ:St):List Nat→St
 |[]=>σ
 |v::vs=>(wipe σ vs).set v none
theorem Cy (σ:St):∀vs:List Nat,(wipe σ vs).length=σ.length
 |[]=>rfl
 |v::vs=>by unfold wipe;rw[List.length_set,Cy σ vs]
theorem Cz {σ:St} {i:Nat} {x:V}:∀{vs:List Nat},(wipe σ vs)[i]? =some (some x)→σ[i]? =some (some x)∧i ∉ vs
 |[],h=>⟨h,by simp⟩
 |v::vs,h=>by
  unfold wipe at h
  by_cases hi:v=i
  ·subst hi
   by_cases hv:v<(wipe σ vs).length
   ·rw[List.getElem?_set_self hv]at h;cases h
   ·rw[List.getElem?_eq_none (by simpa using hv)]at h;cases h
  ·rw[List.getElem?_set_ne hi]at h
   obtain⟨h1,h2⟩:=Cz h
   exact⟨h1,by simp only[List.mem_cons,not_or];exact⟨fun e=>hi e.symm,h2⟩⟩
abbrev Cx.gu (X:Cx) (s:Shared) (H:Hp) (scope:Scope) (cenv:Env) (fp:List Addr):Cx:={X with eY:=s,sA:=H,env:=cenv,outer:=X.stack,ex:=fp,fn:=fun x=>scope.names.lookup x==some .cell,pn:=[],xe:=fun _ _=>False}
section
variable {X:Cx} {pins:List (Addr×Obj)} {σ:St} {H:Hp} {s:Shared}
theorem Np {scope:Scope} {own:List (Str×Nat)} {fp:List Addr} (I:Inv X pins σ H s) (ok:wm X.N X.env.scope scope own) (hN:X.N.Nodup) (hfp:∀b∈fp,i9 X pins H b∧b<s.heap.objs.size):
  Inv (X.gu s H scope (compEnvC scope (cellsFrom (s.heap.objs.size+1) scope.names (eS X.env.cells scope.names [])) s.heap.objs.size X.env) fp) [] (wipe σ (own.map (·.2))) H {s with heap:=pushCells (s.heap.push {cls:= .type "dict",data:= .dict #[]}) scope.names}:=by
 have hfree:∀y∈scope.names,y.2= .free→∃c,X.env.cells.lookup y.1=some c:=fun y hy e=>by
  rcases ok.free y hy e with k|k
  ·exact I.ok.has _ (.inl k)
  ·exact I.ok.has _ (.inr k)
 generalize tE:compEnvC scope (cellsFrom (s.heap.objs.size+1) scope.names (eS X.env.cells scope.names [])) s.heap.objs.size X.env=cenv
 have kp:∀b o,s.heap.get? b=some o→(pushCells (s.heap.push {cls:= .type "dict",data:= .dict #[]}) scope.names).get? b=some o:=fun b o e=>pushCells_keeps _ _ _ _ (Heap.get?_push_of_some _ e)
 have hL:cenv.locals=s.heap.objs.size:=by rw[←tE];rfl
 have hcl:cenv.cells=cellsFrom (s.heap.objs.size+1) scope.names (eS X.env.cells scope.names []):=by rw[←tE];rfl
 have hsc:cenv.scope=Nl scope X.env.scope:=by rw[←tE];rfl
 rw[←Heap.size_push s.heap {cls:= .type "dict",data:= .dict #[]}]at hcl
 have cm:∀{y c},(y,c)∈eS X.env.cells scope.names []→X.env.cells.lookup y=some c∧c<s.heap.objs.size:=fun{y c} hm=>by
  rcases wj hm with hm|⟨h1,rfl⟩
  ·cases hm
  ·obtain⟨c,hc⟩:=hfree _ h1 rfl
   rw[hc]
   obtain⟨w,z⟩:=I.cell _ _ hc
   exact⟨rfl,z.lt⟩
 have mem:∀{y c},cenv.cells.lookup y=some c→(X.env.cells.lookup y=some c∧c<s.heap.objs.size)∨(s.heap.objs.size+1≤c∧Gv (pushCells (s.heap.push {cls:= .type "dict",data:= .dict #[]}) scope.names) c none):=fun{y c} e=>by
  rw[hcl]at e
  rcases tD (PySem.mem_of_lookup e)with hm|⟨_,h2,h3⟩
  ·exact .inl (cm hm)
  ·rw[Heap.size_push]at h2;exact .inr ⟨h2,h3⟩
 have look:∀{y},scope.names.lookup y=some .free→∃c,cenv.cells.lookup y=some c∧X.env.cells.lookup y=some c:=fun{y} hl=>by
  have hy:(y,NameKind.free)∈scope.names:=PySem.mem_of_lookup hl
  obtain⟨c',e'⟩:=mem_lookup (wk (names:=scope.names) (n:=(s.heap.push {cls:= .type "dict",data:= .dict #[]}).objs.size) (Ct (cells:=X.env.cells) (acc:=[]) hy))
  rw[←hcl]at e'
  refine⟨c',e',?_⟩
  rw[hcl]at e'
  rcases tD (PySem.mem_of_lookup e')with hm|⟨h1,_,_⟩
  ·exact(cm hm).1
  ·have:=ok.uniq _ h1
   rw[hl]at this;cases this
 have Nq:(X.gu s H scope cenv fp).Ok:=by
  refine⟨I.ok.mod,by show cenv.scope.kind=_;rw[hsc];exact ok.kind,by show cenv.globals=_;rw[←tE];exact I.ok.glob,by show cenv.builtins=_;rw[←tE];exact I.ok.blt,by show s.heap.objs.size≤cenv.locals;rw[hL];exact Nat.le_refl _,
   fun y z c e1 e2=>?_,fun y hy=>?_,fun y c z e=>?_,I.ok.hd,I.ok.frames,.inl rfl,fun b hb=>⟨?_,fun y c e z=>?_⟩,I.bs,Nat.le_trans I.ok.kI I.sz,fun b o e hb=>?_,fun b hb z=>?_,I.stack,I.Fj⟩
  ·have e1:cenv.cells.lookup y=some c:=e1
   have e2:cenv.cells.lookup z=some c:=e2
   rw[hcl]at e1 e2
   refine Cv (fun p hp=>?_) (fun y z c a b=>I.ok.inj y z c (cm a).1 (cm b).1) (PySem.mem_of_lookup e1) (PySem.mem_of_lookup e2)
   rw[Heap.size_push]
   exact Nat.lt_succ_of_lt (cm (y:=p.1) (c:=p.2) hp).2
  ·show ∃c,cenv.cells.lookup y=some c
   have key:∀k,cenv.kindOf y=some k→(k= .cell∨k= .free)→∃c,cenv.cells.lookup y=some c:=fun k hk hk'=>by
    unfold Env.kindOf at hk
    rw[hsc]at hk
    obtain⟨k',e,r⟩:=Cw hk
    have:k'= .cell∨k'= .free:=by
     rcases r with rfl|⟨rfl,_⟩
     ·exact hk'
     ·exact .inr rfl
    rcases this with rfl|rfl
    ·obtain⟨c,hm⟩:=Cu (n:=(s.heap.push {cls:= .type "dict",data:= .dict #[]}).objs.size) (acc:=eS X.env.cells scope.names []) (PySem.mem_of_lookup e)
     obtain⟨c',e'⟩:=mem_lookup hm
     exact⟨c',by rw[hcl];exact e'⟩
    ·obtain⟨c,h1,_⟩:=look e
     exact⟨c,h1⟩
   rcases hy with hy|hy
   ·exact key _ hy (.inl rfl)
   ·exact key _ hy (.inr rfl)
  ·have z:(scope.names.lookup y==some NameKind.cell)=true:=z
   have z:scope.names.lookup y=some .cell:=by simpa using z
   have e:cenv.cells.lookup y=some c:=e
   rw[hcl]at e
   rcases tD (PySem.mem_of_lookup e)with hm|⟨_,h2,_⟩
   ·rcases wj hm with hm|⟨h1,_⟩
    ·cases hm
    ·have q:=ok.uniq _ h1
     rw[z]at q;cases q
   ·rw[Heap.size_push]at h2
    exact Nat.le_of_succ_le h2
  ·show b≠cenv.locals
   rw[hL];exact Nat.ne_of_lt (hfp b hb).2
  ·have e:cenv.cells.lookup y=some c:=e
   rcases mem e with⟨h1,_⟩|⟨h1,_⟩
   ·exact(hfp b hb).1.2.2.2.2.1 y c h1 z
   ·have h2:s.heap.objs.size+1≤b:=by rw[←z];exact h1
    exact absurd (Nat.lt_of_lt_of_le (hfp b hb).2 (Nat.le_of_succ_le h2)) (Nat.lt_irrefl _)
  ·rcases(hfp b hb).1.2.2.2.1 with z|z
   ·exact I.ok.sD b o e z
   ·exact absurd (Nat.lt_of_lt_of_le (Heap.lt_size e) (Nat.le_trans I.ok.kI z)) (Nat.lt_irrefl _)
  ·rcases List.mem_cons.mp (I.BP b z)with z|z
   ·exact(hfp b hb).1.2.1 z
   ·exact(hfp b hb).1.2.2.1 z
 refine⟨Nq,rfl,I.bare,Un.kept kp,⟨fun _=>none,?_,fun i y av e1 e2 e3=>?_⟩,fun y c e=>?_,?_,fun y c e=>?_,fun p hp=>?_,I.hok.kept kp,by rw[Cy];exact I.len⟩
 ·show Heap.Ns _ cenv.locals _
  rw[hL]
  exact Heap.Ns.keeps (Heap.Ns.new ..) fun b o e=>pushCells_keeps _ _ _ _ e
 ·obtain⟨e2,hne⟩:=Cz e2
  have hfr:scope.names.lookup y=some .free∧(cenv.kindOf y=some .cell∨cenv.kindOf y=some .free):=by
   have key:∀k,cenv.scope.names.lookup y=some k→k= .local∨k= .cell∨k= .free→scope.names.lookup y=some .free∧(cenv.kindOf y=some .cell∨cenv.kindOf y=some .free):=fun k hk hk'=>by
    have hk0:=hk
    rw[hsc]at hk
    obtain⟨k',e,r⟩:=Cw hk
    have no:¬(k'= .local∨k'= .cell):=fun hh=>by
     rcases ok.own _ (PySem.mem_of_lookup e) hh with e'|e'
     ·obtain⟨p,hp,Nr⟩:=List.mem_map.mp e'
      have e3:=ok.ix p hp
      have:p.1=y:=Nr
      rw[this]at e3
      exact hne (List.mem_map.mpr ⟨p,hp,BR hN e3 e1⟩)
     ·exact e' (List.mem_of_getElem? e1)
    rcases r with rfl|⟨rfl,rfl⟩
    ·rcases hk' with rfl|rfl|rfl
     ·exact absurd (.inl rfl) no
     ·exact absurd (.inr rfl) no
     ·exact⟨e,.inr hk0⟩
    ·exact⟨e,.inl hk0⟩
   have e3:qA cenv.scope y:=e3
   rcases e3 with e3|e3|e3
   ·exact key _ e3 (.inl rfl)
   ·exact key _ e3 (.inr (.inl rfl))
   ·exact key _ e3 (.inr (.inr rfl))
  obtain⟨m,hn,hl⟩:=I.loc
  have Nt:qA X.env.scope y:=(ok.free _ (PySem.mem_of_lookup hfr.1) rfl).elim (fun k=> .inr (.inl k)) (fun k=> .inr (.inr k))
  obtain⟨w,r,q⟩:=hl i y av e1 e2 Nt
  refine⟨w,r,.inr ⟨hfr.2,?_⟩⟩
  obtain⟨c,h1,h2⟩:=look hfr.1
  rcases q with⟨k,_⟩|⟨_,c',e',z⟩
  ·have k:X.env.scope.names.lookup y=some .local:=k
   rcases ok.free _ (PySem.mem_of_lookup hfr.1) rfl with k'|k'<;>rw[show X.env.scope.names.lookup y=_ from k']at k<;>cases k
  ·rw[h2]at e';cases e'
   exact⟨c,h1,z.keeps kp⟩
 ·have e:cenv.cells.lookup y=some c:=e
  rcases mem e with⟨h1,_⟩|⟨_,z⟩
  ·obtain⟨w,z⟩:=I.cell y c h1
   exact⟨w,z.keeps kp⟩
  ·exact⟨_,z⟩
 ·show H cenv.locals=none
  rw[hL];exact I.hok.fresh (Nat.le_refl _)
 ·have e:cenv.cells.lookup y=some c:=e
  rcases mem e with⟨h1,_⟩|⟨h1,_⟩
  ·exact I.jF y c h1
  ·exact I.hok.fresh (Nat.le_of_succ_le h1)
 ·exact absurd (show p∈([]:List (Addr×Obj))++[]from hp) (by simp)
theorem Nu {E:Value→Shared→Prop} {D:Addr} {xs:List V} {y:V} {v:Value} {Q:Value→Shared→Prop} (I:Inv X pins σ H s) (hD:H D=some (.lst xs)) (hz:xs.length<sizeLine) (r:RelV y v)
  (h:∀s',Inv X pins σ (upd H D (.lst (xs++[y]))) s'→Q .none s'):wpAny (model X.prog X.w) X.A (call (.builtin "list.append") [.ref D,v]) Q E s:=by
 obtain⟨hz',its,n,ri,e⟩:=I.hok D _ hD
 have hl:=ri.length
 refine append_at (hsz:=by rw[List.size_toArray];omega) e fun h' sb ho'=>?_
 refine h {s with heap:=h'} (I.write (t':=s.toks) (by rw[hD];trivial) (.inl rfl) (fun b u hb q=>(sb.2 b hb).trans q) ⟨_,ho'⟩ ⟨by rw[List.length_append];exact hz,its++[v],n+1,ri.append (.cons r .nil),?_⟩)
 rw[ho']
 simp
def CA (X:Cx) (ifs:List Expr) (t:TT):Prop:=
 ∀(pins:List (Addr×Obj)) (s:Shared) (σ:St) (H:Hp) (Q:Bool→Hp→Prop),Inv X pins σ H s→t σ H Q→
  wpAny (model X.prog X.w) X.A (forIn ifs true fun c r=>if r=true then do let ok ←isTrue c X.env (eval c X.env);pure (ForInStep.yield ok)else pure (ForInStep.yield r)) (TP X pins σ Q) X.xe s
def Gx:TT:=fun _ H Q=>Q true H
theorem tF:CA X [] Gx:=fun _ _ _ H _ I h=>wpAny_tests_nil ⟨H,I,h⟩
end
theorem qR {α:Type} {t:Sem α} {Q Q':α→Shared→Prop} {M:Model} {A:Around} {E:Value→Shared→Prop} {s:Shared} (h:wpAny M A t Q (fun _ _=>False) s) (hQ:∀a s,Q a s→Q' a s):wpAny M A t Q' E s:=wpAny_mono h hQ fun _ _ z=>False.elim z
theorem Nv {prog:Program} {w:World} {A:Around} {R:Result→Shared→Prop} {s:Shared} {elt target iter:Expr} {ifs:List Expr} {scope:Scope} {pos:Pos} {it acc:Value} {env:Env} (I:Nat→Shared→Prop)
  (turn:∀n s,I n s→wpAny (model prog w) A (pyNext it) (fun r s₁=>match r with
   |none=>R (.ok .next) s₁
   |some v=>wpAny (model prog w) A (letOwnedTupleGo target it v) (fun _ s₁'=>wpAny (model prog w) A (assign target env v) (fun _ s₂=>
     wpAny (model prog w) A (forIn ifs true fun c r=>if r=true then do let ok ←isTrue c env (eval c env);pure (ForInStep.yield ok)else pure (ForInStep.yield r)) (fun ok s₃=>
      if ok=true then wpAny (model prog w) A (eval elt env) (fun x s₄=>
       wpAny (model prog w) A (call (.builtin "list.append") [acc,x]) (fun _ s₅=>∃m,m<n∧I m s₅) (notedBy (model prog w) A env fun e s'=>R (.error e) s') s₄) (notedBy (model prog w) A env fun e s'=>R (.error e) s') s₃
      else ∃m,m<n∧I m s₃) (notedBy (model prog w) A env fun e s'=>R (.error e) s') s₂) (notedBy (model prog w) A env fun e s'=>R (.error e) s') s₁') (notedBy (model prog w) A env fun e s'=>R (.error e) s') s₁) (notedBy (model prog w) A env fun e s'=>R (.error e) s') s)
  (n:Nat) (h:I n s):
  codeAny (model prog w) A (.compLoop (.ListComp elt [⟨target,iter,ifs,0⟩] scope pos) 0 it acc env) R s:=by
 refine codeAny_loop rfl I (fun n s hI=>?_) n h
 show wpAny _ A ((compTurn (.ListComp elt [⟨target,iter,ifs,0⟩] scope pos) 0 it acc env).onRaise (fun x=>do noteFrame x env;theTreesLotGoes x)) _ _ s
 refine wpAny_noted ?_
 rw[compTurn_list]
 refine wpAny_bind (wpAny_standAt (wpAny_bind (wpAny_mono (turn n s hI) (fun r s₁ h₁=>?_) fun _ _ h'=>h')))
 cases r with
 |none=>exact wpAny_pure h₁
 |some v=>
  refine wpAny_bind (wpAny_mono h₁ (fun _ s₁' h₁'=>?_) fun _ _ h'=>h')
  refine wpAny_bind (wpAny_mono h₁' (fun _ s₂ h₂=>wpAny_bind (wpAny_mono h₂ (fun ok s₃ h₃=>?_) fun _ _ h'=>h')) fun _ _ h'=>h')
  cases ok with
  |false=>exact wpAny_pure ⟨rfl,h₃⟩
  |true=>
   exact wpAny_bind (wpAny_bind (wpAny_mono h₃ (fun x s₄ h₄=>wpAny_bind (wpAny_mono h₄ (fun _ s₅ h₅=>wpAny_pure (wpAny_pure ⟨rfl,h₅⟩)) fun _ _ h'=>h')) fun _ _ h'=>h'))
section
variable {X:Cx}
def Gy (wi:TI) (g:TG) (tt:TT) (te:TE) (vs:List Nat):TE:=fun σ H Q=>wi σ H fun J H1=>∀D,H1 D=none→∃W:Nat→Nat→Hp→Prop,(∃m,W 0 m (upd H1 D (.lst [])))∧∀i m H,W i m H→
 (J.stop i H∧Q (.ref D) H)∨(J.go i H∧∃Nx:Hp→Prop,(∀H',Nx H'→∃m',m'<m∧W (i+1) m' H')∧∀x H',J.nt i H x H'→g x (wipe σ vs) H' fun σ2 H2=>wipe σ2 vs=wipe σ vs∧tt σ2 H2 fun b H3=>
  if b=true then te σ2 H3 fun y H4=>∃acc,H4 D=some (.lst acc)∧acc.length<sizeLine∧Nx (upd H4 D (.lst (acc++[y])))else Nx H3)
theorem Ny {pins:List (Addr×Obj)} {s:Shared} {σ:St} {H:Hp} {Q:VK} {elt tg iter:Expr} {ifs:List Expr} {scope:Scope} {own:List (Str×Nat)} {pos pos':Pos} {wi:TI} {g:TG} {tt:TT} {te:TE} {use:Option (Value→Sem Unit)} {Qf:Value→Shared→Prop}
  (hc:X.calm=true) (hN:X.N.Nodup) (I:Inv X pins σ H s) (hi:PI X tg iter wi) (ok:wm X.N X.env.scope scope own)
  (hg:∀(s:Shared) (H:Hp) (C:Addr) (cl:List (Str×Addr)) (fp:List Addr),PG (X.gu s H scope (compEnvC scope cl C X.env) fp) tg g) (ht:∀(s:Shared) (H:Hp) (C:Addr) (cl:List (Str×Addr)) (fp:List Addr),CA (X.gu s H scope (compEnvC scope cl C X.env) fp) ifs tt)
  (he:∀(s:Shared) (H:Hp) (C:Addr) (cl:List (Str×Addr)) (fp:List Addr),PE (X.gu s H scope (compEnvC scope cl C X.env) fp) elt te) (hs:∀x,foldedSetIterable iter X.env x=pure x)
  (h:Gy wi g tt te (own.map (·.2)) σ H Q)
  (hRR:∀D C s' m H',Inv X pins σ H' s'→Q (.ref D) H'→s'.heap.Ns C m→i9 X pins H' C→compPost (model X.prog X.w) X.A X.xe use Qf (.ref D) C (.ok .next) s'):
  wpAny (model X.prog X.w) X.A (comprehension (.ListComp elt [⟨tg,iter,ifs,0⟩] scope pos) scope X.env pos' (newList []) false (eval iter X.env) use) Qf X.xe s:=by
 have hfree:∀y∈scope.names,y.2= .free→∃c,X.env.cells.lookup y.1=some c:=fun y hy e=>by
  rcases ok.free y hy e with k|k
  ·exact I.ok.has _ (.inl k)
  ·exact I.ok.has _ (.inr k)
 refine wpAny_comprehension_free (use:=use) rfl hs (Nm hfree) ok.kind (fun y hy e=>by rw[ok.uniq y hy,e])
  (aV (hi pins s σ H _ I h) fun xv s1 hx=>aV hx fun itv s2 h2=>?_)
 obtain⟨it,fp,tn,J,H2,e,I2,T,st2,f2,q⟩:=h2
 subst e
 refine wpAny_newObj_type (Nn ?_) (by show 0≤sizeLine;decide)
 generalize hD:s2.heap.objs.size=D
 have Nz:H2 D=none:=I2.hok.fresh (Nat.le_of_eq hD)
 obtain⟨W,⟨m0,w0⟩,turn⟩:=q D Nz
 generalize Gz:({s2 with heap:=s2.heap.push {cls:= .type "list",data:= .seq ([]:List Value).toArray}}:Shared)=s3
 have I3:Inv X pins σ (upd H2 D (.lst [])) s3:=by
  rw[←Gz]
  refine I2.laid (t':=s2.toks) (fun b o e=>Heap.get?_push_of_some _ e) (Nat.le_of_eq hD) ⟨Nat.zero_le _,[],0,.nil,?_⟩
  rw[←hD]
  exact Heap.get?_push_size _ rfl
 have h3:s3.heap=s2.heap.push {cls:= .type "list",data:= .seq ([]:List Value).toArray}:=by rw[←Gz]
 have sz:∀b∈fp,b<s2.heap.objs.size:=fun b hb=>by
  obtain⟨o,e,_⟩:=T.obj _ _ st2 b hb
  exact Heap.lt_size e
 have f3:∀b∈fp,i9 X pins (upd H2 D (.lst [])) b∧b<s3.heap.objs.size:=fun b hb=>by
  have hlt:=sz b hb
  refine⟨⟨?_,(f2 b hb).2⟩,by rw[h3,Heap.size_push];exact Nat.lt_succ_of_lt hlt⟩
  rw[aL (by rw[←hD];exact Nat.ne_of_lt hlt)]
  exact(f2 b hb).1
 have st3:tn 0 s3.heap:=T.keep _ _ _ st2 fun b _ o e=>by rw[h3];exact Heap.get?_push_of_some _ e
 have I4:=Np I3 ok hN f3
 have pg:=hg s3 (upd H2 D (.lst [])) s3.heap.objs.size (cellsFrom (s3.heap.objs.size+1) scope.names (eS X.env.cells scope.names [])) fp
 have pt:=ht s3 (upd H2 D (.lst [])) s3.heap.objs.size (cellsFrom (s3.heap.objs.size+1) scope.names (eS X.env.cells scope.names [])) fp
 have pe:=he s3 (upd H2 D (.lst [])) s3.heap.objs.size (cellsFrom (s3.heap.objs.size+1) scope.names (eS X.env.cells scope.names [])) fp
 show codeAny _ _ (.compStart (.ListComp elt [⟨tg,iter,ifs,0⟩] scope pos) 0 (.ref it) (.ref D) (compEnvC scope (cellsFrom (s3.heap.objs.size+1) scope.names (eS X.env.cells scope.names [])) s3.heap.objs.size X.env)) (compPost (model X.prog X.w) X.A X.xe use Qf (.ref D) s3.heap.objs.size) {s3 with heap:=pushCells (s3.heap.push {cls:= .type "dict",data:= .dict #[]}) scope.names}
 have GB:∀b∈fp,(upd H2 D (.lst [])) b=none:=fun b hb=>(f3 b hb).1.1
 generalize hce:compEnvC scope (cellsFrom (s3.heap.objs.size+1) scope.names (eS X.env.cells scope.names [])) s3.heap.objs.size X.env=ce at I4 pg pt pe ⊢
 have cL:ce.locals=s3.heap.objs.size:=by subst hce;rfl
 generalize ZI:upd H2 D (.lst [])=H3 at I3 I4 pg pt pe w0 GB f3
 generalize NB:({s3 with heap:=pushCells (s3.heap.push {cls:= .type "dict",data:= .dict #[]}) scope.names}:Shared)=s4 at I4 ⊢
 have GC:tn 0 s4.heap:=T.keep _ _ _ st3 fun b _ o e=>by rw[←NB];exact pushCells_keeps _ _ _ _ (Heap.get?_push_of_some _ e)
 have oY:∀{σ':St} {H':Hp} {s':Shared},Inv (X.gu s3 H3 scope ce fp) [] σ' H' s'→(∀b∈fp,H' b=none)→∀b∈fp,i9 (X.gu s3 H3 scope ce fp) [] H' b:=fun{σ' H' s'} I' hn b hb=>
  ⟨hn b hb,(I'.ok.vC b hb).1,I'.ok.sE b hb,.inl hb,fun x c e=>(I'.ok.vC b hb).2 x c e,fun p hp=>absurd (show p∈([]:List (Addr×Obj))++[]from hp) (by simp)⟩
 have loop:codeAny (model X.prog X.w) X.A (.compLoop (.ListComp elt [⟨tg,iter,ifs,0⟩] scope pos) 0 (.ref it) (.ref D) ce) (compPost (model X.prog X.w) X.A X.xe use Qf (.ref D) s3.heap.objs.size) s4:=by
  refine Nv (fun n s'=>∃i H',Inv (X.gu s3 H3 scope ce fp) [] (wipe σ (own.map (·.2))) H' s'∧tn i s'.heap∧(∀b∈fp,H' b=none)∧W i n H') ?_ m0 ⟨0,H3,I4,GC,GB,w0⟩
  rintro n s5 ⟨i,H5,I5,qG,n5,w5⟩
  rcases turn i n H5 w5 with⟨stop,qq⟩|⟨go,Nx,NC,step⟩
  ·have td:=T.done (X.gu s3 H3 scope ce fp) rfl rfl rfl hc i [] s5 _ H5 (fun _ _=>False) I5 (oY I5 n5) qG stop
   refine qR td fun r s6 zq0=>?_
   obtain⟨hr,I6⟩:=zq0
   subst hr
   have I7:Inv X pins σ H5 s6:=I3.L0 (ch:=fp) I6.os I6.base I6.hok I6.bare fun b hb=>⟨(f3 b hb).1.2.2.2.1,(f3 b hb).1.2.1,(f3 b hb).1.2.2.2.2.1,(f3 b hb).1.2.2.2.2.2⟩
   have nC:H5 s3.heap.objs.size=none:=by
    have z:H5 ce.locals=none:=I6.free
    rw[cL]at z
    exact z
   obtain⟨m,hn,_⟩:=I6.loc
   have hn:s6.heap.Ns ce.locals m:=hn
   rw[cL]at hn
   exact hRR D s3.heap.objs.size s6 m H5 I7 qq hn (I3.sG (Nat.le_refl _) nC)
  ·have ti:=T.item (X.gu s3 H3 scope ce fp) rfl rfl rfl hc i [] s5 _ H5 (fun _ _=>False) I5 (oY I5 n5) qG go
   refine qR ti fun r s6 zq0=>?_
   obtain⟨u,hr,h6⟩:=zq0
   subst hr
   refine qR h6 fun _ s7 zq0=>?_
   obtain⟨x,H7,I7,r7,y7,CB,n7⟩:=zq0
   have ND:=I7.pinned (oY I7 n7) (T.obj _ _ CB)
   refine qR (pg _ s7 _ H7 x u _ ND r7 (step x H7 y7)) fun _ s8 zq0=>?_
   obtain⟨σ8,H8,I8,GD,q8⟩:=zq0
   refine qR (pt _ s8 σ8 H8 _ I8 q8) fun b s9 zq0=>?_
   obtain⟨H9,I9,q9⟩:=zq0
   have fin:∀{s':Shared} {H':Hp},Inv (X.gu s3 H3 scope ce fp) ([]++sI fp s7.heap) σ8 H' s'→Nx H'→∃m,m<n∧∃i H',Inv (X.gu s3 H3 scope ce fp) [] (wipe σ (own.map (·.2))) H' s'∧tn i s'.heap∧(∀b∈fp,H' b=none)∧W i m H':=fun{s' H'} I' nx=>by
    obtain⟨m',hm,w'⟩:=NC H' nx
    have GF:∀b∈fp,∀o,s7.heap.get? b=some o→s'.heap.get? b=some o∧H' b=none:=fun b hb o e=>
     let z:=I'.pin (b,o) (List.mem_append_right _ (List.mem_append_right _ (B7 hb e)))
     ⟨z.1,z.2.1⟩
    have hl:(wipe σ (own.map (·.2))).length=σ8.length:=by rw[←GD,Cy]
    refine⟨m',hm,i+1,H',(I'.vP (pins:=[])).weak hl (fun j v e=>?_),T.keep _ _ _ CB fun b hb o e=>(GF b hb o e).1,fun b hb=>?_,w'⟩
    ·rw[←GD]at e
     exact(Cz e).1
    ·obtain⟨o,e,_⟩:=T.obj _ _ CB b hb
     exact(GF b hb o e).2
   cases b with
   |false=>
    simp only[Bool.false_eq_true,if_false]at q9 ⊢
    exact fin I9 q9
   |true=>
    simp only[if_true]at q9 ⊢
    refine qR (pe _ s9 σ8 H9 _ I9 q9) fun z wo zq0=>?_
    obtain⟨yv,NF,NG,NH,acc,NI,NJ,nx⟩:=zq0
    exact Nu (X:=X.gu s3 H3 scope ce fp) NG NI NJ NH fun GH NK=>fin NK nx
 exact codeAny_compStart_list loop (T.self X.A 0 _ _ _ GC loop)
theorem tG {elt tg iter:Expr} {ifs:List Expr} {scope:Scope} {own:List (Str×Nat)} {pos:Pos} {wi:TI} {g:TG} {tt:TT} {te:TE} (hc:X.calm=true) (hN:X.N.Nodup) (hi:PI X tg iter wi) (ok:wm X.N X.env.scope scope own)
  (hg:∀(s:Shared) (H:Hp) (C:Addr) (cl:List (Str×Addr)) (fp:List Addr),PG (X.gu s H scope (compEnvC scope cl C X.env) fp) tg g) (ht:∀(s:Shared) (H:Hp) (C:Addr) (cl:List (Str×Addr)) (fp:List Addr),CA (X.gu s H scope (compEnvC scope cl C X.env) fp) ifs tt)
  (he:∀(s:Shared) (H:Hp) (C:Addr) (cl:List (Str×Addr)) (fp:List Addr),PE (X.gu s H scope (compEnvC scope cl C X.env) fp) elt te) (hs:∀x,foldedSetIterable iter X.env x=pure x:=by intro _;rfl):
  PE X (.ListComp elt [⟨tg,iter,ifs,0⟩] scope pos) (Gy wi g tt te (own.map (·.2))):=by
 intro pins s σ H Q I h
 rw[eval_ListComp]
 refine Ny hc hN I hi ok hg ht he hs h fun D C s' m H' I' q hn f=>⟨m,hn,fun h'' sb=>?_⟩
 obtain⟨f0,f1,f2,f3,f4,f5⟩:=f
 exact⟨.ref D,H',I'.turned (t':=s'.toks) (fun b o hb e=>(sb.2 b hb).trans e) f0 f1 f3 f4 f5,rfl,q⟩
end
theorem GI {K:W.Frag} {a:Addr} {xs:List V} {g:TG} {tt:TT} {te:TE} {vs:List Nat} {σ:St} {H1:Hp} {D:Addr} {Qd:Hp→Prop} (Pv:Nat→Hp→Prop) (h0:Pv 0 (upd H1 D (.lst []))) (hl:∀i H,i≤xs.length→Pv i H→aJ K H a xs)
  (hs:∀i x H,xs[i]? =some x→Pv i H→g x (wipe σ vs) H fun σ2 H2=>wipe σ2 vs=wipe σ vs∧tt σ2 H2 fun b H3=>
   if b=true then te σ2 H3 fun y H4=>∃acc,H4 D=some (.lst acc)∧acc.length<sizeLine∧Pv (i+1) (upd H4 D (.lst (acc++[y])))else Pv (i+1) H3) (hd:∀H,Pv xs.length H→Qd H):
  ∃W:Nat→Nat→Hp→Prop,(∃m,W 0 m (upd H1 D (.lst [])))∧∀i m H,W i m H→
   ((nv K a).stop i H∧Qd H)∨((nv K a).go i H∧∃Nx:Hp→Prop,(∀H',Nx H'→∃m',m'<m∧W (i+1) m' H')∧∀x H',(nv K a).nt i H x H'→g x (wipe σ vs) H' fun σ2 H2=>wipe σ2 vs=wipe σ vs∧tt σ2 H2 fun b H3=>
    if b=true then te σ2 H3 fun y H4=>∃acc,H4 D=some (.lst acc)∧acc.length<sizeLine∧Nx (upd H4 D (.lst (acc++[y])))else Nx H3):=by
 refine⟨fun i m H=>m=xs.length-i∧i≤xs.length∧Pv i H,⟨xs.length,by simp,Nat.zero_le _,h0⟩,?_⟩
 rintro i m H ⟨rfl,hi,p⟩
 have q:=hl i H hi p
 by_cases hlt:i<xs.length
 ·refine .inr ⟨⟨xs,xs[i],q,by simp[hlt]⟩,Pv (i+1),fun H' p'=>⟨xs.length-(i+1),by omega,rfl,hlt,p'⟩,fun x H' y=>?_⟩
  obtain⟨e,y⟩:=y
  subst e
  exact hs i x _ (y xs q) p
 ·have e:i=xs.length:=by omega
  subst e
  exact .inl ⟨⟨xs,q,Nat.le_refl _⟩,hd H p⟩
def GJ (N:List Str) (sc scope:Scope) (own:List (Str×Nat)):Bool:=
 (match scope.kind with| .function=>true|_=>false)&&(scope.names.all fun y=>decide (scope.names.lookup y.1=some y.2))&&(own.all fun p=>decide (N[p.2]? =some p.1))&&
  (scope.names.all fun y=>match y.2 with
   | .free=>(match sc.names.lookup y.1 with|some .cell=>true|some .free=>true|_=>false)
   | .local=>decide (y.1∈own.map (·.1))||decide (y.1 ∉ N)
   | .cell=>decide (y.1∈own.map (·.1))||decide (y.1 ∉ N)
   |_=>true)
theorem tH {N:List Str} {sc scope:Scope} {own:List (Str×Nat)} (h:GJ N sc scope own=true):wm N sc scope own:=by
 unfold GJ at h
 simp only[Bool.and_eq_true,List.all_eq_true,decide_eq_true_eq]at h
 obtain⟨⟨⟨h1,h2⟩,h3⟩,h4⟩:=h
 refine⟨?_,h2,h3,fun y hy e=>?_,fun y hy e=>?_⟩
 ·split at h1
  ·assumption
  ·cases h1
 ·have q:=h4 y hy
  simp only[e]at q
  split at q<;>first|exact .inl (by assumption)|exact .inr (by assumption)|cases q
 ·have q:=h4 y hy
  rcases e with e|e<;>(simp only[e,Bool.or_eq_true,decide_eq_true_eq]at q;exact q)
section
variable {κ:Type} [DecidableEq κ]
def c8 (kvs:List (κ×V)) (k:κ):Option V:=(kvs.find? fun kv=>decide (kv.1=k)).map (·.2)
theorem NL {p:κ×V} {r:List (κ×V)} {k:κ} (e:p.1=k):c8 (p::r) k=some p.2:=by simp[c8,List.find?_cons,e]
theorem NN {p:κ×V} {r:List (κ×V)} {k:κ} (e:¬p.1=k):c8 (p::r) k=c8 r k:=by simp[c8,List.find?_cons,e]
theorem g8.GK {o:Option V} {u:Option Value} (r:g8 o u):o.isSome=u.isSome:=by
 cases o with
 |none=>cases u with
  |none=>rfl
  |some _=>exact(show False from r).elim
 |some _=>cases u with
  |none=>exact(show False from r).elim
  |some _=>rfl
theorem KV.val {kvs:List (κ×V)} {vs:List (κ×Value)} (r:KV kvs vs) (k:κ):g8 (c8 kvs k) (valueAt vs k):=by
 unfold KV at r
 induction r with
 |nil=>exact True.intro
 |@cons p q ps qs h t ih=>
  obtain⟨h1,h2⟩:=h
  by_cases e:p.1=k
  ·have e':q.1=k:=h1.symm.trans e
   have b:valueAt (q::qs) k=some q.2:=by simp[valueAt,List.find?_cons,e']
   rw[NL e,b];exact h2
  ·have e':¬q.1=k:=fun z=>e (h1.trans z)
   have b:valueAt (q::qs) k=valueAt qs k:=by simp[valueAt,List.find?_cons,e']
   rw[NN e,b];exact ih
end
theorem CC {P:Program} {w:World} {k:Key} {u:Value} (r:RelV (kV k) u):(i6 P w).is k u=true:=by
 cases k with
 |inl i=>obtain⟨t,e⟩:=(show ∃t,u=Value.int i t from r);subst e;exact LL P w i t
 |inr x=>obtain⟨t,e⟩:=(show ∃t,u=Value.str x t from r);subst e;exact LM P w x t
def GL (i:Expr):Prop:=∀ov iv,subscripted i false ov iv=operate [ov,iv] (getItem ov iv)
theorem NO {prog:Program} {w:World} {A:Around} {E:Value→Shared→Prop} {s:Shared} {env:Env} {value slice:Expr} {pos:Pos} {T id:String} {Q:Value→Shared→Prop}
  (hl:typeLookup (.type T) "__getitem__"=pure (some (.builtin id))) (hs:GL slice)
  (h:wpAny (model prog w) A (eval value env) (fun o s₁=>wpAny (model prog w) A (eval slice env) (fun i s₂=>s₂.TypeIs o T∧wpAny (model prog w) A (getItem o i) Q E s₂) E s₁) E s):
  wpAny (model prog w) A (eval (.Subscript value slice pos) env) Q E s:=by
 refine Subscript_ (wpAny_mono h (fun o s₁ h₁=>wpAny_mono h₁ (fun i s₂ h₂=>?_) fun _ _ x=>x) fun _ _ x=>x)
 obtain⟨hT,h₂⟩:=h₂
 unfold subscriptTail
 refine wpAny_bind ?_
 rw[getitemInPython_of_ne hT.not_modules]
 refine wpAny_bind (wpAny_specialOf hT hl ?_)
 have fin:wpAny (model prog w) A (subscripted slice false o i) (fun r s₃=>wpAny (model prog w) A (letTemporaryGo value o r>>=fun _=>pure r) Q E s₃) E s₂:=by
  rw[hs o i]
  exact wpAny_operating (wpAny_mono h₂ (fun r s₃ h₃=>wpAny_bind (wpAny_letTemporaryGo (wpAny_pure h₃))) fun _ _ x=>x)
 first
  |exact wpAny_pure (wpAny_bind fin)
  |exact wpAny_bind (wpAny_pure (wpAny_bind fin))
  |exact wpAny_bind fin
section
variable {X:Cx} {pins:List (Addr×Obj)} {σ:St} {H:Hp} {s:Shared} {h':Heap}
theorem Inv.NP {t':Nat} {ch:List Addr} (I:Inv X pins σ H s) (k:∀b o,b ∉ ch→s.heap.get? b=some o→h'.get? b=some o) (hf:∀b∈ch,i9 X pins H b):Inv X pins σ H {s with heap:=h',toks:=t'}:=by
 have ni:∀b u,H b=some u→b ∉ ch:=fun b u e z=>by
  have q:=(hf b z).1
  rw[q]at e;cases e
 refine I.step (g':=s.gens) (d':=s.drawn) (ch:=ch) (fun b hb=>⟨(hf b hb).2.2.2.1,(hf b hb).2.1,(hf b hb).2.2.2.2.1,(hf b hb).2.2.2.2.2⟩) (fun b o _ _ hc e _=>k b o hc e) (fun b o _ _ hc e _=>⟨o.slots,k b o hc e⟩)
  (fun _ _ _ _ n=>n) (fun b o hc e=>⟨o,k b o hc e⟩) (fun _ _ e=>e) (fun _ _ _ e=>e) (fun b ps e=>⟨#[],by rw[e];simp⟩) (fun m hm=>?_) (fun b u e=>?_) I.bare
 ·obtain⟨o,es,ep,ho,r⟩:=hm
  exact⟨o,es,ep,k _ o (fun z=>(hf _ z).2.1 rfl) ho,r⟩
 ·refine(I.hok b u e).stay (fun c v hc q=>k c v ?_ q) (fun _ q=>q) fun _ _ q=>q
  rcases hc with z|z
  ·rw[z];exact ni b u e
  ·exact ni c _ z
theorem Inv.NQ {t':Nat} {ch:List Addr} {T:Addr} {ob:HO} (I:Inv X pins σ H s) (k:∀b o,b ∉ ch→s.heap.get? b=some o→h'.get? b=some o) (hf:∀b∈ch,i9 X pins H b) (hT:s.heap.objs.size≤T)
  (new:fQ X.prog X.w (upd H T ob) h' T ob):Inv X pins σ (upd H T ob) {s with heap:=h',toks:=t'}:=by
 have hn:H T=none:=I.hok.fresh hT
 have ni:∀b u,H b=some u→b ∉ ch:=fun b u e z=>by
  have q:=(hf b z).1
  rw[q]at e;cases e
 refine I.step (g':=s.gens) (d':=s.drawn) (ch:=ch) (fun b hb=>⟨(hf b hb).2.2.2.1,(hf b hb).2.1,(hf b hb).2.2.2.2.1,(hf b hb).2.2.2.2.2⟩) (fun b o _ _ hc e _=>k b o hc e) (fun b o _ _ hc e _=>⟨o.slots,k b o hc e⟩)
  (fun b o _ e n=>?_) (fun b o hc e=>⟨o,k b o hc e⟩) (fun b xs e=>?_) (fun b o u e=>?_) (fun b ps e=>⟨#[],?_⟩) (fun m hm=>?_) (fun b u e=>?_) I.bare
 ·rw[aL (Nat.ne_of_lt (Nat.lt_of_lt_of_le (Heap.lt_size e) hT))];exact n
 ·rw[aL (aY e hn)];exact e
 ·rw[aL (aY e hn)];exact e
 ·rw[aL (aY e hn),e];simp
 ·obtain⟨o,es,ep,ho,r⟩:=hm
  exact⟨o,es,ep,k _ o (fun z=>(hf _ z).2.1 rfl) ho,r⟩
 ·by_cases hb:b=T
  ·subst hb
   rw[aH]at e
   cases e
   exact new
  ·rw[aL hb]at e
   refine(I.hok b u e).stay (fun c v hc q=>k c v ?_ q) (fun c q=>by rw[aL (aY q hn)];exact q) fun c xs q=>by rw[aL (aY q hn)];exact q
   rcases hc with z|z
   ·rw[z];exact ni b u e
   ·exact ni c _ z
end
section
variable {X:Cx}
theorem NS {tg:Expr} {pins:List (Addr×Obj)} {σ:St} {H:Hp} {s:Shared} {R:It→Hp→Prop} {J:It} {tn:Nat→Heap→Prop} {tk:Nat} (I:Inv X pins σ H s) (o:Obj)
  (T:Turn X.prog X.w X.K tg J [s.heap.objs.size] s.heap.objs.size tn) (st:tn 0 (s.heap.push o)) (q:R J H):B5 X pins σ tg R (.ref s.heap.objs.size) {s with heap:=s.heap.push o,toks:=tk}:=by
 refine⟨s.heap.objs.size,[s.heap.objs.size],tn,J,H,rfl,I.kept fun b ob e=>Heap.get?_push_of_some _ e,T,st,fun b hb=>?_,q⟩
 have e:b=s.heap.objs.size:=by simpa using hb
 subst e
 exact I.sG (Nat.le_refl _) (I.hok.fresh (Nat.le_refl _))
end
def tK (lo c:Int) (n:Nat):It:=⟨fun i _=>i<n,fun i H x H'=>H'=H∧x= .int (lo+(i:Nat)*c),fun i _=>n≤i⟩
theorem NT {P:Program} {w:World} {K:W.Frag} {tg:Expr} (it:Addr) (lo c:Int) (n:Nat):Turn P w K tg (tK lo c n) [it] it (fun i h=>IsRangeIter h it (lo+(i:Nat)*c) ((n:Int)-(i:Nat)) c) where
 mem:=by simp
 obj:=fun i h st b hb=>by
  have e:b=it:=by simpa using hb
  subst e
  exact⟨_,st,fun v z=>nomatch z⟩
 keep:=fun i h h' st k=>k it (by simp) _ st
 item:=by
  intro X hP hw hK hc i pins s σ H E I hf st hg
  subst hP hw hK
  obtain⟨f0,f1,f2,f3,f4,f5⟩:=hf it (by simp)
  have W:=Walks.range (prog:=X.prog) (w:=X.w) (I.ok.hd hc) it lo c n
  refine W.item i s _ _ hg st fun v h' tk hv st' kk=>?_
  obtain⟨t,rfl⟩:=hv
  have I1:Inv X pins σ H {s with heap:=h',toks:=tk}:=I.turned (fun b o hb e=>kk b o (by simpa using hb) e) f0 f1 f3 f4 f5
  exact⟨_,rfl,B6 (s:={s with heap:=h',toks:=tk}) (n:="range_iterator") st' rfl rfl (by decide) ⟨.int (lo+(i:Nat)*c),H,I1,⟨t,rfl⟩,⟨rfl,rfl⟩,st',fun b hb=>(hf b hb).1⟩⟩
 done:=by
  intro X hP hw hK hc i pins s σ H E I hf st hg
  subst hP hw hK
  obtain⟨f0,f1,f2,f3,f4,f5⟩:=hf it (by simp)
  exact wpAny_pyNext_range_end (I.ok.hd hc) st (by have:n≤i:=hg;omega) fun h' eb=>⟨rfl,I.turned (t':=s.toks) (fun b o hb e=>eb b o hb e) f0 f1 f3 f4 f5⟩
 self:=fun A i s Q E st h=>wpAny_pyIter_rangeiter st h
def GN (i j c:Int) (n:Nat):Prop:=c≠0∧c.natAbs<1073741824∧Builtin.Range.small i j c=true∧Builtin.Range.rangeSize i j c=n
def NU (ta:TA):TI:=fun σ H R=>ta σ H fun vs H1=>∃(i j c:Int) (n:Nat),vs=[.int i,.int j,.int c]∧GN i j c n∧R (tK i c n) H1
section
variable {X:Cx} {tg:Expr}
theorem GO {a b c:Expr} {ta:TA} {p pos:Pos} (hg:Gl X "range") (hm:X.mg "range"=none) (ha:PA X [a,b,c] ta)
  (hs:starEach [a,b,c] X.env=(false,eval a X.env)::starEach [b,c] X.env:=by rfl) (hpl:(backTo pos (starEach [b,c] X.env)).any (·.1)=false:=by rfl):
  PI X tg (.Call (.Name "range" p) [a,b,c] [] pos) (NU ta):=by
 intro pins s σ H R I h
 refine Call_ (qB I hg hm boot_range (PyProof.Rows.callWith_type1 (aV (ha pos pins s σ H _ I h) fun us s1 ⟨vs,H1,I1,r1,q1⟩=>?_) hs hpl))
 obtain⟨i,j,k,n,e,⟨c0,c1,c2,c3⟩,q⟩:=q1
 subst e
 cases r1 with
 |cons r rr=>
  cases rr with
  |cons r' rr=>
   cases rr with
   |cons r'' rr=>
    cases rr
    obtain⟨t,rfl⟩:=r
    obtain⟨t',rfl⟩:=r'
    obtain⟨t'',rfl⟩:=r''
    refine call_range_3 c0 ?_ (.inl (PyProof.noPylong_small c1))
    refine wpAny_pyIter_range (IsRange.new ..) c2 ?_
    have I2:Inv X pins σ H1 {s1 with heap:=s1.heap.push {cls:= .type "range",data:= .fields #[.int i t,.int j t',.int k t'']}}:=I1.kept (t':=s1.toks) fun b o e=>Heap.get?_push_of_some _ e
    refine NS (tk:=s1.toks) I2 _ (NT _ i k n) ?_ q
    have e1:i+((0:Nat):Int)*k=i:=by simp
    have e2:(n:Int)-((0:Nat):Int)=Builtin.Range.rangeSize i j k:=by rw[c3];simp
    show IsRangeIter _ _ (i+((0:Nat):Int)*k) ((n:Int)-((0:Nat):Int)) k
    rw[e1,e2]
    exact Heap.get?_push_size _ rfl
end
theorem NV:bootBuiltins "zip"=some (.type "zip"):=by decide+kernel
def tL (K:W.Frag) (a b:Addr):It:=
 ⟨fun i H=>∃(xs ys:List V) (x y:V),aJ K H a xs∧aJ K H b ys∧xs[i]? =some x∧ys[i]? =some y,
  fun i H v H'=>∃T x y,v= .ref T∧H T=none∧H'=upd H T (.tup [x,y])∧(∀xs,aJ K H a xs→xs[i]? =some x)∧∀ys,aJ K H b ys→ys[i]? =some y,
  fun i H=>∃xs ys:List V,aJ K H a xs∧aJ K H b ys∧(xs.length≤i∨ys.length≤i)⟩
theorem NW {P:Program} {w:World} {K:W.Frag} {elts:List Expr} {kk:Nat} {tpos:Pos} {a b z TI TO i1 i2:Addr} (D:ZipApart z TI TO i1 i2 a b):
  Turn P w K (.Tuple elts kk tpos) (tL K a b) [z,TI,TO,i1,i2] z (fun i h=>IsZip h z TI TO .none∧IsPair h TI (.ref i1) (.ref i2)∧(∃x y,IsPair h TO x y)∧h.IsListIter i1 a i∧h.IsListIter i2 b i) where
 mem:=by simp
 obj:=fun i h st c hc=>by
  obtain⟨hz,hTI,⟨x,y,hTO⟩,⟨o1,e1,_,d1⟩,⟨o2,e2,_,d2⟩⟩:=st
  have e':c=z∨c=TI∨c=TO∨c=i1∨c=i2:=by simpa using hc
  rcases e' with q|q|q|q|q
  ·rw[q];exact⟨_,hz,fun v q=>nomatch q⟩
  ·rw[q];exact⟨_,hTI,fun v q=>nomatch q⟩
  ·rw[q];exact⟨_,hTO,fun v q=>nomatch q⟩
  ·rw[q];exact⟨o1,e1,fun v q=>by rw[d1]at q;cases q⟩
  ·rw[q];exact⟨o2,e2,fun v q=>by rw[d2]at q;cases q⟩
 keep:=fun i h h' st k=>by
  obtain⟨hz,hTI,⟨x,y,hTO⟩,h1,h2⟩:=st
  exact⟨k z (by simp) _ hz,k TI (by simp) _ hTI,⟨x,y,k TO (by simp) _ hTO⟩,h1.at fun o q=>k i1 (by simp) o q,h2.at fun o q=>k i2 (by simp) o q⟩
 item:=by
  intro X hP hw hK hc i pins s σ H E I hf st hg
  subst hP hw hK
  obtain⟨hz,hTI,⟨x0,y0,hTO⟩,h1,h2⟩:=st
  obtain⟨xs,ys,x,y,qS,qT,hx,hy⟩:=hg
  obtain⟨its,rv,p,_⟩:=I.list qS
  obtain⟨its2,wu,p2,_⟩:=I.list qT
  obtain⟨u,hu,ru⟩:=rv.get hx
  obtain⟨u2,NX,NY⟩:=wu.get hy
  have GP:z<s.heap.objs.size:=Heap.lt_size hz
  refine wpAny_pyNext_zip_item D hz hTI hTO h1 h2 p.isList p2.isList (x:=u) (y:=u2) (by simpa using hu) (by simpa using NX) fun h' z' NZ CD h2' hT hsz hk=>?_
  refine⟨_,rfl,wpAny_letOwnedTupleGo_zip (s:={s with heap:=h'}) z' fun h'' N1 sb=>?_⟩
  have hT2:h''.get? s.heap.objs.size=some {cls:= .type "tuple",data:= .seq #[u,u2]}:=(sb.2 _ (Nat.ne_of_gt GP)).trans hT
  have new:fQ X.prog X.w (upd H s.heap.objs.size (.tup [x,y])) h'' s.heap.objs.size (.tup [x,y]):=
   ⟨by show 2≤sizeLine;decide,[u,u2],.cons ru (.cons NY .nil),⟨_,hT2,rfl,_,rfl⟩⟩
  have I1:Inv X pins σ (upd H s.heap.objs.size (.tup [x,y])) {s with heap:=h''}:=
   I.NQ (t':=s.toks) (ch:=[z,TI,TO,i1,i2]) (fun c o hb q=>(sb.2 c (fun q'=>hb (by simp[q']))).trans (hk c o (fun q'=>hb (by simp[q'])) (fun q'=>hb (by simp[q'])) (fun q'=>hb (by simp[q'])) (fun q'=>hb (by simp[q'])) q)) hf (Nat.le_refl _) new
  refine⟨.ref s.heap.objs.size,_,I1,rfl,⟨_,x,y,rfl,I.hok.fresh (Nat.le_refl _),rfl,fun l hl=>by rw[I.BX hl qS];exact hx,fun l hl=>by rw[I.BX hl qT];exact hy⟩,⟨N1,?_,⟨u,u2,?_⟩,?_,?_⟩,fun c wz=>?_⟩
  ·exact(sb.2 _ D.TIz).trans (hk _ _ D.TIz D.TITO D.TIi1 D.TIi2 hTI)
  ·exact(sb.2 _ D.TOz).trans NZ
  ·exact CD.at fun o q=>(sb.2 _ D.i1z).trans q
  ·exact h2'.at fun o q=>(sb.2 _ D.i2z).trans q
  ·have hlt:c<s.heap.objs.size:=by
    have e':c=z∨c=TI∨c=TO∨c=i1∨c=i2:=by simpa using wz
    rcases e' with q|q|q|q|q
    ·rw[q];exact GP
    ·rw[q];exact Heap.lt_size hTI
    ·rw[q];exact Heap.lt_size hTO
    ·rw[q];obtain⟨_,e1,_⟩:=h1;exact Heap.lt_size e1
    ·rw[q];obtain⟨_,e2,_⟩:=h2;exact Heap.lt_size e2
   rw[aL (Nat.ne_of_lt hlt)]
   exact(hf c wz).1
 done:=by
  intro X hP hw hK hc i pins s σ H E I hf st hg
  subst hP hw hK
  obtain⟨hz,hTI,⟨x0,y0,hTO⟩,h1,h2⟩:=st
  obtain⟨xs,ys,qS,qT,hend⟩:=hg
  obtain⟨its,rv,p,_⟩:=I.list qS
  obtain⟨its2,wu,p2,_⟩:=I.list qT
  have l1:=rv.length
  have l2:=wu.length
  have he:its.toArray[i]? =none∨its2.toArray[i]? =none:=by
   rcases hend with q|q
   ·exact .inl (by simp;omega)
   ·exact .inr (by simp;omega)
  exact wpAny_pyNext_zip_end (I.ok.hd hc) D hz hTI hTO h1 h2 p.isList p2.isList he fun h' hk=>⟨rfl,I.NP (t':=s.toks) (ch:=[z,TI,TO,i1,i2]) (fun c o hb q=>
   hk c o (fun q'=>hb (by simp[q'])) (fun q'=>hb (by simp[q'])) (fun q'=>hb (by simp[q'])) (fun q'=>hb (by simp[q'])) q) hf⟩
 self:=fun A i s Q E st h=>wpAny_pyIter_zip st.1 h
def N2 (K:W.Frag) (ta:TA):TI:=fun σ H R=>ta σ H fun vs H1=>∃a b xs ys,vs=[.ref a,.ref b]∧aJ K H1 a xs∧aJ K H1 b ys∧R (tL K a b) H1
theorem N3 {X:Cx} {e e2:Expr} {ta:TA} {p pos tpos:Pos} {elts:List Expr} {kk:Nat} (hg:Gl X "zip") (hm:X.mg "zip"=none) (ha:PA X [e,e2] ta)
  (hs:starEach [e,e2] X.env=(false,eval e X.env)::starEach [e2] X.env:=by rfl) (hpl:(backTo pos (starEach [e2] X.env)).any (·.1)=false:=by rfl):
  PI X (.Tuple elts kk tpos) (.Call (.Name "zip" p) [e,e2] [] pos) (N2 X.K ta):=by
 intro pins s σ H R I h
 refine Call_ (qB I hg hm NV (PyProof.Rows.callWith_type1 (aV (ha pos pins s σ H _ I h) fun us s1 ⟨vs,H1,I1,r1,q1⟩=>?_) hs hpl))
 obtain⟨a,b,xs,ys,ex,qS,qT,q⟩:=q1
 subst ex
 cases r1 with
 |cons r rr=>
  cases rr with
  |cons r' rr=>
   cases rr
   cases r
   cases r'
   obtain⟨its,rv,p1,_⟩:=I1.list qS
   obtain⟨its2,wu,p2,_⟩:=I1.list qT
   have la:a<s1.heap.objs.size:=p1.lt
   have lb:b<s1.heap.objs.size:=p2.lt
   refine call_zip_2 p1.isList p2.isList fun h' hz hTI hTO h1 h2 hsz hk=>wpAny_pyIter_zip hz ?_
   have I2:Inv X pins σ H1 {s1 with heap:=h'}:=I1.kept (t':=s1.toks) hk
   refine⟨s1.heap.objs.size+4,[s1.heap.objs.size+4,s1.heap.objs.size+2,s1.heap.objs.size+3,s1.heap.objs.size,s1.heap.objs.size+1],_,_,H1,rfl,I2,NW (W.ktu_apart s1.heap.objs.size a b la lb),⟨hz,hTI,⟨_,_,hTO⟩,h1,h2⟩,fun c wz=>?_,q⟩
   have e':c=s1.heap.objs.size+4∨c=s1.heap.objs.size+2∨c=s1.heap.objs.size+3∨c=s1.heap.objs.size∨c=s1.heap.objs.size+1:=by simpa using wz
   have hle:s1.heap.objs.size≤c:=by
    rcases e' with z|z|z|z|z
    ·rw[z];exact Nat.le_add_right _ _
    ·rw[z];exact Nat.le_add_right _ _
    ·rw[z];exact Nat.le_add_right _ _
    ·rw[z];exact Nat.le_refl _
    ·rw[z];exact Nat.le_add_right _ _
   exact I1.sG hle (I1.hok.fresh hle)
def inClass (s:Stmt) (j:Nat):Stmt:=match s with
 | .ClassDef _ _ _ body _ _ _ _ _ _ _=>body.getD j (.Pass ⟨0,0,0,0⟩)
 |_=> .Pass ⟨0,0,0,0⟩
def nD (s:Stmt):Arguments:=match s with
 | .FunctionDef _ a _ _ _ _ _ _ _ _=>a
 |_=>{posonlyargs:=[],args:=[],vararg:=none,kwonlyargs:=[],kw_defaults:=[],kwarg:=none,defaults:=[]}
def jd (s:Stmt):List Stmt:=match s with
 | .FunctionDef _ _ b _ _ _ _ _ _ _=>b
 |_=>[]
def aG (s:Stmt):Scope:=match s with
 | .FunctionDef _ _ _ _ _ _ sc _ _ _=>sc
 |_=>{kind:= .function,names:=[],isGenerator:=false,isCoroutine:=false}
abbrev gS:iI:=fun _ _ _ _ _ _=>False
abbrev E0:XK:=fun _ _ _=>False
theorem qU {X:Cx}:Passes gS X E0:=fun _ _ _ _ _ _ _ h=>h.elim
structure pA (K:W.Frag) (x qual:Str) (st:Stmt) (f:Addr) (fd:FuncData):Prop where
 ex:∃(oc:Value) (od:Option Addr) (kV doc pm:Value) (an:Option Addr) (cdv ct:Value) (osl:Array (Option Value)),
  fd=W.fnOf x qual (nD st) (jd st) (aG st) .none kV doc pm an cdv ct∧K.lookup f=some ⟨oc,od,.func fd,osl⟩∧W.codeIn K cdv qual=true
 kp:W.keepIn K (.ref f)=true
section
variable {P:Program} {w:World} {K:W.Frag} {mg:Str→Option Value} {base:Heap}
theorem pA.ok {x qual:Str} {st:Stmt} {f:Addr} {fd:FuncData} {N ps:List Str} {k:Nat} {sp:Sp} (F:pA K x qual st f fd) (S:aI N ps (aG st)) (len:∀vs H Q E,sp vs H Q E→vs.length=ps.length)
  (hbody:∀(cdv:Value) (A:Around) (outer:List Env) (s:Shared) (H:Hp) (vs:List V) (Q:VK) (E:XK),cD k (A.deeper (envOfC qual (aG st) s.heap.objs.size f cdv))→sp vs H Q E→
   ∃t,gc (lN gS P w K mg base N qual (aG st) f cdv A outer s H E).oU (jd st) t∧t {nx:=fun _ H'=>Q .aK H',rt:=Q} (start N vs) H):dF P w K mg base gS (k+1) f fd ps sp:=by
 obtain⟨oc,od,kV,doc,pm,an,cdv,ct,osl,rfl,lk,hcd⟩:=F.ex
 refine MY lk hcd S len fun A outer s H vs Q E hr kN=>?_
 obtain⟨t,h,q⟩:=hbody cdv A outer s H vs Q E hr kN
 exact⟨t,h.oU,q⟩
theorem pA.binds {x qual:Str} {st:Stmt} {f:Addr} {fd:FuncData} {ps:List Str} (F:pA K x qual st f fd)
  (h:∀(kV doc pm:Value) (an:Option Addr) (cdv ct:Value) (us:List Value),us.length=ps.length→bindArgs (W.fnOf x qual (nD st) (jd st) (aG st) .none kV doc pm an cdv ct) ⟨us,[]⟩=pure (ps.zip us)):Binds K fd ps []:=by
 obtain⟨oc,od,kV,doc,pm,an,cdv,ct,osl,rfl,lk,hcd⟩:=F.ex
 exact .all (h kV doc pm an cdv ct)
theorem N4 {x qual:Str} {st:Stmt} {f:Addr} {oc:Value} {od an:Option Addr} {osl:Array (Option Value)} {kV doc pm cdv ct:Value} (l:K.lookup f=some ⟨oc,od,.func (W.fnOf x qual (nD st) (jd st) (aG st) .none kV doc pm an cdv ct),osl⟩)
  (c:W.codeIn K cdv qual=true) (k:W.keepIn K (.ref f)=true):pA K x qual st f (W.fnOf x qual (nD st) (jd st) (aG st) .none kV doc pm an cdv ct):=⟨⟨oc,od,kV,doc,pm,an,cdv,ct,osl,rfl,l,c⟩,k⟩
end
section
variable {X:Cx}
theorem pv (i:Nat) {x:Str} {pos:Pos} (hN:X.N[i]? =some x:=by rfl) (hv:qA X.env.scope x:=by first|exact Or.inl rfl|exact Or.inr (Or.inl rfl)|exact Or.inr (Or.inr rfl)) (hd:(x==("__debug__":Str))=false:=by decide+kernel)
  (hcd:(x==("__classdict__":Str))=false:=by decide+kernel):PE X (.Name x pos) (bh i):=L5 hN hv hd hcd
end
theorem dw {A B:Prop} (h:B):if false=true then A else B:=by
 rw[if_neg Bool.false_ne_true]
 exact h
theorem cA {A B:Prop} (h:A):if true=true then A else B:=by
 rw[if_pos rfl]
 exact h
theorem ao {c A B:Prop} [Decidable c] (h1:c→A) (h2:¬c→B):if c then A else B:=by
 by_cases h:c
 ·rw[if_pos h]
  exact h1 h
 ·rw[if_neg h]
  exact h2 h
def ah (H H':Hp):Prop:=∀b o,H b=some o→H' b=some o
theorem ah.refl (H:Hp):ah H H:=fun _ _ h=>h
theorem ah.trans {H H1 H2:Hp} (a:ah H H1) (b:ah H1 H2):ah H H2:=fun c o h=>b c o (a c o h)
theorem ah.free {H H':Hp} (e:ah H H') {l:Addr} (h:H' l=Option.none):H l=Option.none:=by
 cases q:H l with
 |none=>rfl
 |some o=>
  rw[e l o q]at h
  cases h
structure Callee (P:Program) (w:World) (K:W.Frag) (mg:Str→Option Value) (base:Heap) (k:Nat) (x:Str) (ps:List Str) (sp:Sp):Prop where
 ex:∃(f:Addr) (fd:FuncData),mg x=some (.ref f)∧W.keepIn K (.ref f)=true∧Binds K fd ps []∧dF P w K mg base gS k f fd ps sp
structure Def (K:W.Frag) (mg:Str→Option Value) (x:Str) (st:Stmt):Prop where
 ex:∃(f:Addr) (fd:FuncData),mg x=some (.ref f)∧pA K x x st f fd
section
variable {X:Cx} {k:Nat} {ps:List Str} {sp:Sp} {x:Str} {p pos:Pos} {e:Expr} {es:List Expr} {t:TA}
theorem aE (C:Callee X.prog X.w X.K X.mg X.base k x ps sp) (hr:cD k X.A) (ha:PA X (e::es) t) (hg:Gl X x:=by rfl) (hdb:(x==("__debug__":Str))=false:=by decide+kernel)
  (he:starEach (e::es) X.env=(false,eval e X.env)::starEach es X.env:=by rfl) (hpl:(backTo pos (starEach es X.env)).any (·.1)=false:=by rfl):
  PE X (.Call (.Name x p) (e::es) [] pos) (fR sp [] E0 t):=by
 obtain⟨f,fd,hm,hk,hb,F⟩:=C.ex
 exact MR F hr hg hm hk hb .nil qU ha hdb he hpl
def GQ (P:Program) (w:World) (K:W.Frag) (mg:Str→Option Value) (base:Heap) (k:Nat) (tf:TE) (t:TA):TE:=fun σ H Q=>tf σ H fun v H1=>∃(f:Addr),v= .ref f∧W.keepIn K (.ref f)=true∧t σ H1 fun vs H2=>
 ∃(fd:FuncData) (ps:List Str) (sp:Sp),Binds K fd ps []∧dF P w K mg base gS k f fd ps sp∧sp vs H2 Q E0
theorem wA {fe:Expr} {tf:TE} (hr:cD k X.A) (hf:PE X fe tf) (ha:PA X (e::es) t)
  (hc:eval (.Call fe (e::es) [] pos) X.env=(do callWith pos (←eval fe X.env) [] (backTo pos (starEach (e::es) X.env)) (backToKw pos (keywordEach [] X.env))):=by rfl)
  (he:starEach (e::es) X.env=(false,eval e X.env)::starEach es X.env:=by rfl) (hpl:(backTo pos (starEach es X.env)).any (·.1)=false:=by rfl):
  PE X (.Call fe (e::es) [] pos) (GQ X.prog X.w X.K X.mg X.base k tf t):=by
 intro pins s σ H Q I h
 refine PyProof.Rows.Call_ (aV (hf pins s σ H _ I h) fun u s1 ⟨v,H1,I1,rv,f,ev,hk,q⟩=>?_) hc
 subst ev
 obtain rfl:u=Value.ref f:=rv
 refine W.callWith_K (h₀:=X.base) I.ok.mod.qy hk (aV (ha pos pins s1 σ H1 _ I1 q) fun us s2 ⟨vs,H2,I2,r,fd,ps,sp,hb,F,q2⟩=>⟨I2.fD,?_⟩) he hpl
 refine vX F hr hb .nil qU I2 r ?_
 rw[List.append_nil]
 exact q2
end
section
variable {P:Program} {w:World} {K:W.Frag} {mg:Str→Option Value} {base:Heap}
theorem aM {N P:List Str} {sc:Scope} (a:sc.kind= .function:=by rfl) (b:sc.isCoroutine=false:=by rfl) (c:sc.isGenerator=false:=by rfl) (d:N.Nodup:=by decide+kernel) (e:N.take P.length=P:=by rfl) (f:∀x∈P,sc.names.lookup x=some .local∨sc.names.lookup x=some .cell:=by decide+kernel) (g:∀y∈sc.names,y.2≠ .free:=by decide+kernel):aI N P sc:=⟨a,b,c,d,e,f,g⟩
theorem Z9 {α:Type _} {p:List α→Prop} (h:∀a0:α,p [a0]):∀l:List α,l.length=1→p l
 |[_],_=>h _
theorem ln2 {α:Type _} {p:List α→Prop} (h:∀a0 a1:α,p [a0,a1]):∀l:List α,l.length=2→p l
 |[_,_],_=>h _ _
theorem Z8 {α:Type _} {p:List α→Prop} (h:∀a0 a1 a2:α,p [a0,a1,a2]):∀l:List α,l.length=3→p l
 |[_,_,_],_=>h _ _ _
theorem ln4 {α:Type _} {p:List α→Prop} (h:∀a0 a1 a2 a3:α,p [a0,a1,a2,a3]):∀l:List α,l.length=4→p l
 |[_,_,_,_],_=>h _ _ _ _
theorem ln5 {α:Type _} {p:List α→Prop} (h:∀a0 a1 a2 a3 a4:α,p [a0,a1,a2,a3,a4]):∀l:List α,l.length=5→p l
 |[_,_,_,_,_],_=>h _ _ _ _ _
theorem aT {x:Str} {st:Stmt} {N ps:List Str} {k:Nat} {sp:Sp} (D:Def K mg x st) (S:aI N ps (aG st))
  (hb:∀(kV doc pm:Value) (an:Option Addr) (cdv ct:Value) (us:List Value),us.length=ps.length→bindArgs (W.fnOf x x (nD st) (jd st) (aG st) .none kV doc pm an cdv ct) ⟨us,[]⟩=pure (ps.zip us))
  (len:∀vs H Q E,sp vs H Q E→vs.length=ps.length)
  (hbody:∀(f:Addr) (cdv:Value) (A:Around) (outer:List Env) (s:Shared) (H:Hp) (vs:List V) (Q:VK) (E:XK),cD k (A.deeper (envOfC x (aG st) s.heap.objs.size f cdv))→sp vs H Q E→
   ∃t,gc (lN gS P w K mg base N x (aG st) f cdv A outer s H E).oU (jd st) t∧t {nx:=fun _ H'=>Q .aK H',rt:=Q} (start N vs) H):Callee P w K mg base (k+1) x ps sp:=by
 obtain⟨f,fd,hm,F⟩:=D.ex
 exact⟨f,fd,hm,F.kp,F.binds hb,F.ok S len (hbody f)⟩
end
structure KD (P:Program) (w:World) (K:W.Frag) (a:Addr) (kvs:List (Key×V)):Prop where
 ex:∃(o:Obj) (es:Array DictEntry) (ep:Nat) (vs:List (Key×Value)),K.lookup a=some o∧o.ExactDict∧o.data= .dict es ep∧KeysOf (i6 P w) es∧Pairs (i6 P w) es.toList vs∧(vs.map (·.1)).Nodup∧KV kvs vs
 ns:(a==sysModules)=false
theorem KD.dict {P:Program} {w:World} {K:W.Frag} {a:Addr} {kvs:List (Key×V)} {h:Heap} (d:KD P w K a kvs) (X:K.In h):∃vs,KV kvs vs∧h.DictOf (i6 P w) a vs:=by
 obtain⟨o,es,ep,vs,h1,h2,h3,h4,h5,h6,h7⟩:=d.ex
 exact⟨vs,h7,o,es,ep,X a o h1,h2,h3,h4,h5,h6⟩
section
variable {X:Cx} {o i:Expr} {td ty:TE} {pos:Pos}
def N5 (P:Program) (w:World) (K:W.Frag) (td ty:TE):TE:=fun σ H Q=>td σ H fun x H1=>ty σ H1 fun y H2=>∃a kvs k v,x= .ref a∧KD P w K a kvs∧y=kV k∧c8 kvs k=some v∧Q v H2
def N6 (P:Program) (w:World) (K:W.Frag) (ty td:TE):TE:=fun σ H Q=>ty σ H fun y H1=>td σ H1 fun x H2=>∃a kvs k,x= .ref a∧KD P w K a kvs∧y=kV k∧Q (.bl (c8 kvs k).isSome) H2
def N7 (P:Program) (w:World) (K:W.Frag) (ty td:TE):TE:=fun σ H Q=>ty σ H fun y H1=>td σ H1 fun x H2=>∃a kvs k,x= .ref a∧KD P w K a kvs∧y=kV k∧Q (.bl (!(c8 kvs k).isSome)) H2
theorem nE (ho:PE X o td) (hi:PE X i ty) (hs:GL i:=by exact fun _ _=>rfl):PE X (.Subscript o i pos) (N5 X.prog X.w X.K td ty):=by
 intro pins s σ H Q I h
 refine NO PySem.F.slot_dict_getitem.lookup hs (aV (ho pins s σ H _ I h) fun u s1 ⟨x,H1,I1,rx,q1⟩=>aV (hi pins s1 σ H1 _ I1 q1) fun iv s2 zq0=>?_)
 obtain⟨y,H2,I2,ry,a,kvs,k,v,ex,g,ey,l,q2⟩:=zq0
 subst ex ey
 obtain rfl:u=Value.ref a:=rx
 obtain⟨vs,rel,dd⟩:=g.dict I2.fD
 obtain⟨w',hw,rw'⟩:=g8.some_of (v:=v) (o:=valueAt vs k) (by rw[←l];exact rel.val k)
 exact⟨dd.typeIs,wpAny_getItem_of (CC ry) dd.mapOf hw ⟨v,H2,I2.tok _,rw',q2⟩⟩
theorem N8 (hi:PE X i ty) (ho:PE X o td):PC X .In i o (N6 X.prog X.w X.K ty td):=by
 intro pins s σ H Q I h
 refine aV (hi pins s σ H _ I h) fun iv s1 ⟨y,H1,I1,ry,q1⟩=>aV (ho pins s1 σ H1 _ I1 q1) fun u s2 zq0=>?_
 obtain⟨x,H2,I2,rx,a,kvs,k,ex,g,ey,q2⟩:=zq0
 subst ex ey
 obtain rfl:u=Value.ref a:=rx
 obtain⟨vs,rel,dd⟩:=g.dict I2.fD
 refine wpAny_in_of (CC ry) g.ns dd.mapOf ?_
 rw[←(rel.val k).GK]
 exact⟨.bl _,H2,I2.tok _,rfl,q2⟩
theorem N9 (hi:PE X i ty) (ho:PE X o td):PC X .NotIn i o (N7 X.prog X.w X.K ty td):=by
 intro pins s σ H Q I h
 refine aV (hi pins s σ H _ I h) fun iv s1 ⟨y,H1,I1,ry,q1⟩=>aV (ho pins s1 σ H1 _ I1 q1) fun u s2 zq0=>?_
 obtain⟨x,H2,I2,rx,a,kvs,k,ex,g,ey,q2⟩:=zq0
 subst ex ey
 obtain rfl:u=Value.ref a:=rx
 obtain⟨vs,rel,dd⟩:=g.dict I2.fD
 refine wpAny_notIn_of (CC ry) g.ns dd.mapOf ?_
 rw[←(rel.val k).GK]
 exact⟨.bl _,H2,I2.tok _,rfl,q2⟩
end
section
variable {X:Cx} {a:Expr} {es:List Expr} {ta:TE} {t:TA} {pos:Pos}
def Oa (ta:TE) (t:TA):TE:=fun σ H Q=>ta σ H fun x H1=>t σ H1 fun xs H2=>gQ x=true∧xs.all gQ=true∧xs.length≤sizeLine∧Q (.bl (c7 x xs)) H2
def Ob (ta:TE) (t:TA):TE:=fun σ H Q=>ta σ H fun x H1=>t σ H1 fun xs H2=>gQ x=true∧xs.all gQ=true∧xs.length≤sizeLine∧Q (.bl (!c7 x xs)) H2
theorem nF {x1} {p2:Pos} (ha:PE X a ta) (h:PA X es t):PC X .In a (.Tuple es x1 p2) (Oa ta t):=by
 intro pins s σ H Q I hq
 refine aV (ha pins s σ H _ I hq) fun v s0 zq0=>?_
 obtain⟨x,H1,I1,rx,q1⟩:=zq0
 refine wpAny_Tuple_spliced (aV (h p2 pins s0 σ H1 _ I1 q1) fun us s1 ⟨xs,H2,I2,r,fx,fs,z,q⟩=>⟨by rw[←r.length];exact z,?_⟩)
 have I3:Inv X pins σ H2 {s1 with heap:=s1.heap.push {cls:= .type "tuple",data:= .seq us.toArray}}:=I2.kept (t':=s1.toks) fun b ob q=>Heap.get?_push_of_some _ q
 refine SeqAt.in_tupleAt (gR x) ⟨_,Heap.get?_push_size _ rfl,rfl,_,rfl⟩ (fun w hw=>tu rx fx r fs w (by simpa using hw)) ⟨.bl _,H2,I3,rfl,?_⟩
 rw[show us.toArray.any (gR x)=us.any (gR x) by simp,sZ r fs]
 exact q
theorem Oc {x1} {p2:Pos} (ha:PE X a ta) (h:PA X es t):PC X .NotIn a (.Tuple es x1 p2) (Ob ta t):=by
 intro pins s σ H Q I hq
 refine aV (ha pins s σ H _ I hq) fun v s0 zq0=>?_
 obtain⟨x,H1,I1,rx,q1⟩:=zq0
 refine wpAny_Tuple_spliced (aV (h p2 pins s0 σ H1 _ I1 q1) fun us s1 ⟨xs,H2,I2,r,fx,fs,z,q⟩=>⟨by rw[←r.length];exact z,?_⟩)
 have I3:Inv X pins σ H2 {s1 with heap:=s1.heap.push {cls:= .type "tuple",data:= .seq us.toArray}}:=I2.kept (t':=s1.toks) fun b ob q=>Heap.get?_push_of_some _ q
 refine SeqAt.notIn_tupleAt (gR x) ⟨_,Heap.get?_push_size _ rfl,rfl,_,rfl⟩ (fun w hw=>tu rx fx r fs w (by simpa using hw)) ⟨.bl _,H2,I3,rfl,?_⟩
 rw[show us.toArray.any (gR x)=us.any (gR x) by simp,sZ r fs]
 exact q
def GU (K:W.Frag):R2:=fun x y H Q=>∃p xs,y= .ref p∧cI K H p xs∧gQ x=true∧xs.all gQ=true∧Q (.bl (c7 x xs)) H
theorem qV:cG X (compareOp .In) (GU X.K):=fun pins s σ H x y v u Q I rx ry ⟨p,xs,e,h1,h2,h3,q⟩=>Na pins s σ H x y v u Q I rx ry ⟨p,xs,e,.inr h1,h2,h3,q⟩
def Od (i j:Int):Prop:=0<j∧j<2^64
theorem pB:cG X (binaryOp .FloorDiv) (rI Od fun i j=> .int (i/j)):=sJ fun i j _ _ _ _ _ hc q=>by
 have h1:(0:Int)<j:=hc.1
 have h2:j<2^64:=hc.2
 refine floordiv_int (by lia) (by rw[Int.fdiv_eq_ediv_of_nonneg i (by lia)];exact q) (.inl (PyProof.noPylong_of_log2 ?_))
 have h3:j.natAbs<2^64:=by lia
 have h0:j.natAbs≠0:=by lia
 exact Nat.lt_of_lt_of_le ((Nat.log2_lt h0).mpr h3) (by decide)
theorem Oe:Ci X "int.bit_length" (fun x xs H Q=>∃i,x= .int i∧xs=[]∧Q (.int ((Builtin.Int.intBits i:Nat):Int)) H):=by
 intro pins s σ H x xs v us Q I rx rs h
 obtain⟨i,rfl,rfl,q⟩:=h
 obtain⟨t,rfl⟩:=rx
 cases rs
 exact call_gives F.slot_int_bit_length (typeIs_int _ _ _) F.entry_int_bit_length (F.args_int_bit_length_1 _) (AutoIntG2.int_bit_length_int_0 i t) ⟨.int _,H,I.tok _,⟨_,rfl⟩,q⟩
end
section
variable {X:Cx}
theorem Of:kM X (.type "range") (fun xs H Q=>∃i j:Int,xs=[.int i,.int j]∧∀p,H p=none→Q (.ref p) (upd H p (.oN i j))):=by
 intro pins s σ H xs us Q I r h
 obtain⟨i,j,rfl,q⟩:=h
 obtain⟨u,w',rfl,r1,r2⟩:=vals2 r
 obtain⟨t,rfl⟩:=r1
 obtain⟨t',rfl⟩:=r2
 exact call_range_2 ⟨.ref s.heap.objs.size,upd H s.heap.objs.size (.oN i j),I.laid (fun b o e=>Heap.get?_push_of_some _ e) (Nat.le_refl _) ⟨_,_,_,Heap.get?_push_size _ rfl⟩,rfl,q _ (I.hok.fresh (Nat.le_refl _))⟩
theorem Og {lo:Int} {its:List Value} {n:Nat} (hl:its.length=n) (h:∀(j:Nat) (v:Value),its[j]? =some v→∃tk,v= .int (lo+(j:Nat)*1) tk):Vals ((List.range n).map fun(k:Nat)=>V.int (lo+(k:Int))) its:=by
 induction its generalizing n lo with
 |nil=>subst hl;exact .nil
 |cons u us ih=>
  subst hl
  rw[List.length_cons,List.range_succ_eq_map,List.map_cons,List.map_map]
  refine .cons ?_ ?_
  ·obtain⟨tk,e⟩:=h 0 u rfl
   exact⟨tk,by rw[e];simp⟩
  ·have z:=ih (lo:=lo+1) (n:=us.length) rfl fun j v hv=>by
    obtain⟨tk,e⟩:=h (j+1) v (by simpa using hv)
    refine⟨tk,by rw[e];congr 1;simp;lia⟩
   have e:(fun(k:Nat)=>V.int (lo+(k:Int)))∘Nat.succ=fun(k:Nat)=>V.int (lo+1+(k:Int)):=by
    funext k
    show V.int _=V.int _
    congr 1
    lia
   rw[e]
   exact z
theorem Oh (hc:X.calm=true):kM X (.type "list") (fun xs H Q=>∃(p:Addr) (lo hi:Int),xs=[.ref p]∧H p=some (.oN lo hi)∧(-(2^62)≤lo∧lo<2^62∧ -(2^62)≤hi∧hi<2^62)∧(hi-lo).toNat≤sizeLine∧
  ∀l,H l=none→Q (.ref l) (upd H l (.lst ((List.range (hi-lo).toNat).map fun(k:Nat)=>V.int (lo+(k:Int)))))):=by
 intro pins s σ H xs us Q I r h
 obtain⟨p,lo,hi,rfl,hp,⟨b1,b2,b3,b4⟩,hn,q⟩:=h
 obtain⟨u,rfl,rx⟩:=vals1 r
 cases rx
 obtain⟨t,u,v,e⟩:=I.hok p _ hp
 have e2:Builtin.Range.rangeSize lo hi 1=(((hi-lo).toNat:Nat):Int):=by rw[rangeSize_one];split<;>lia
 refine call_list_range (I.ok.hd hc) e (small_one b1 b2 b3 b4) e2 hn fun h' tk acc' c' hk hS' hacc=>?_
 refine⟨.ref s.heap.objs.size,_,I.laid (h':=h') (t':=tk) (o:= .lst ((List.range (hi-lo).toNat).map fun(k:Nat)=>V.int (lo+(k:Int)))) hk (Nat.le_refl _) ?_,rfl,q _ (I.hok.fresh (Nat.le_refl _))⟩
 refine⟨by simpa using hn,acc'.toList,c',Og (by simp[hacc.1]) fun j v hv=>hacc.2 j v (by simpa using hv),by simpa using hS'⟩
end
end L2
namespace My
open PySem PySem.Spec PyProof.Rows L2
open PySem.W (Frag)
open Path (Insn bitsOf State_ numbers inBits Range_ beginsFrom askTold littleOf helpersIn Bytes)
theorem aa {c:Prop} {h:Decidable c} (hc:¬c) {α:Sort _} {t e:α}:ite c t e=e:=if_neg hc
theorem aPos {c:Prop} {h:Decidable c} (hc:c) {α:Sort _} {t e:α}:ite c t e=t:=if_pos hc
theorem aB:(false=true)=False:=Bool.false_eq_true
theorem aZ {p:Prop} [Decidable p]:decide p=true→p:=of_decide_eq_true
theorem bq {p:Prop} [Decidable p]:p→decide p=true:=decide_eq_true
theorem aC {α:Sort _} (a b:α):(if False then a else b)=b:=if_false a b
theorem aD {α:Sort _} (a b:α):(if True then a else b)=a:=if_true a b
def top (i:Nat):Stmt:=PySem.Challenge.pw_judgedprograms_s01_answers.main.body.getD i (.Pass ⟨0,0,0,0⟩)
def je (K:W.Frag) (H:Hp) (a:Addr) (f:Str) (v:V):Prop:=∃C dx fs,H a=some (.ins C dx fs)∧cO K C∧bV K C f∧fs.lookup f=some v
abbrev S3:=Int×Int×Int
def aQ (K:W.Frag) (H:Hp) (v:V) (s:S3):Prop:=∃p,v= .ref p∧cI K H p [.int s.1,.int s.2.1,.int s.2.2]
theorem Oi {K:W.Frag} {H H':Hp} {p:Addr} {xs:List V} (h:cI K H p xs) (s:ah H H'):cI K H' p xs:=by
 rcases h with(h|⟨o,h⟩)|h
 ·exact .inl (.inl (s _ _ h))
 ·exact .inl (.inr ⟨o,s _ _ h⟩)
 ·exact .inr h
theorem aQ.mono {K:W.Frag} {H H':Hp} {v:V} {x:S3} (h:aQ K H v x) (s:ah H H'):aQ K H' v x:=by
 obtain⟨p,e,h⟩:=h
 exact⟨p,e,Oi h s⟩
theorem ah.new {H:Hp} {p:Addr} {o:HO} (h:H p=none):ah H (upd H p o):=fun b u e=>by
 rw[aL (aY e h)]
 exact e
def wB (i:Insn):List (Str×V):=[("code",.int (i.code:Int)),("group",.int (i.cls:Int)),("op",.int (i.op:Int)),("way",.int (i.mode:Int)),("size",.int (i.size:Int)),("from_src",.bl i.reg),("dst",.int (i.dst:Int)),("src",.int (i.src:Int)),("off",.int i.off),("imm",.int i.imm)]
def CF:List Str:=["code","group","op","way","size","from_src","dst","src","off","imm"]
structure GV (i:Insn):Prop where
 code:i.code<256
 dst:i.dst<16
 src:i.src<16
 off: -32768≤i.off∧i.off<32768
 imm: -2147483648≤i.imm∧i.imm<2147483648
structure bf (K:W.Frag) (H:Hp) (v:V) (i:Insn):Prop where
 ok:GV i
 ex:∃a C dx,v= .ref a∧H a=some (.ins C dx (wB i))∧cO K C∧∀f∈CF,bV K C f
theorem bf.mono {K:W.Frag} {H H':Hp} {v:V} {i:Insn} (h:bf K H v i) (s:ah H H'):bf K H' v i:=by
 obtain⟨ok,a,C,dx,e,h1,h2⟩:=h
 exact⟨ok,a,C,dx,e,s _ _ h1,h2⟩
section
variable {K:W.Frag} {H:Hp} {v:V} {i:Insn}
theorem bf.fld {f:Str} {u:V} (h:bf K H v i) (hf:f∈CF) (hl:(wB i).lookup f=some u):∃a,v= .ref a∧je K H a f u:=by
 obtain⟨ok,a,C,dx,e,h1,h2,h3⟩:=h
 exact⟨a,e,C,dx,_,h1,h2,h3 f hf,hl⟩
theorem bf.eF (h:bf K H v i):∃a,v= .ref a∧je K H a "code" (.int (i.code:Int)):=h.fld (by decide+kernel) rfl
theorem bf.gT (h:bf K H v i):∃a,v= .ref a∧je K H a "group" (.int (i.cls:Int)):=h.fld (by decide+kernel) rfl
theorem bf.b9 (h:bf K H v i):∃a,v= .ref a∧je K H a "op" (.int (i.op:Int)):=h.fld (by decide+kernel) rfl
theorem bf.pC (h:bf K H v i):∃a,v= .ref a∧je K H a "way" (.int (i.mode:Int)):=h.fld (by decide+kernel) rfl
theorem bf.fG (h:bf K H v i):∃a,v= .ref a∧je K H a "size" (.int (i.size:Int)):=h.fld (by decide+kernel) rfl
theorem bf.nG (h:bf K H v i):∃a,v= .ref a∧je K H a "from_src" (.bl i.reg):=h.fld (by decide+kernel) rfl
theorem bf.bA (h:bf K H v i):∃a,v= .ref a∧je K H a "dst" (.int (i.dst:Int)):=h.fld (by decide+kernel) rfl
theorem bf.ff (h:bf K H v i):∃a,v= .ref a∧je K H a "src" (.int (i.src:Int)):=h.fld (by decide+kernel) rfl
theorem bf.dz (h:bf K H v i):∃a,v= .ref a∧je K H a "off" (.int i.off):=h.fld (by decide+kernel) rfl
theorem bf.c9 (h:bf K H v i):∃a,v= .ref a∧je K H a "imm" (.int i.imm):=h.fld (by decide+kernel) rfl
end
structure dg (K:W.Frag) (H:Hp) (v:V) (p:List Insn):Prop where
 ex:∃a C dx fs il bl vs,v= .ref a∧H a=some (.ins C dx fs)∧cO K C∧bV K C "instructions"∧bV K C "begins"∧fs.lookup ("instructions":Str)=some (.ref il)∧fs.lookup ("begins":Str)=some (.ref bl)∧
  H il=some (.lst vs)∧Paired (bf K H) vs p∧H bl=some (.lst ((beginsFrom false p).map V.bl))
 len:0<p.length∧p.length≤128
theorem dg.mono {K:W.Frag} {H H':Hp} {v:V} {p:List Insn} (h:dg K H v p) (s:ah H H'):dg K H' v p:=by
 obtain⟨⟨a,C,dx,fs,il,bl,vs,e,h1,h2,h3,h4,h5,h6,h7,h8,h9⟩,hl⟩:=h
 exact⟨⟨a,C,dx,fs,il,bl,vs,e,s _ _ h1,h2,h3,h4,h5,h6,s _ _ h7,Paired.ck h8 fun _ _ q=>q.mono s,s _ _ h9⟩,hl⟩
theorem Paired.at {α β:Type} {F:α→β→Prop}:∀{l₁:List α} {l₂:List β} {n:Nat} {y:β},Paired F l₁ l₂→l₂[n]? =some y→∃x,l₁[n]? =some x∧F x y
 |_,_,_,_,.nil,e=>by simp at e
 |_,_,0,_,.cons r _,e=>by simp at e;subst e;exact⟨_,rfl,r⟩
 |_,_,n+1,y,.cons _ t,e=>by
  obtain⟨u,h1,h2⟩:=Paired.at (n:=n) (y:=y) t (by simpa using e)
  exact⟨u,by simpa using h1,h2⟩
theorem Paired.len {α β:Type} {F:α→β→Prop} {l₁:List α} {l₂:List β} (h:Paired F l₁ l₂):l₁.length=l₂.length:=Paired.length h
def cE (K:W.Frag) (H:Hp) (v:V) (l:List S3):Prop:=∃p vs,v= .ref p∧H p=some (.lst vs)∧Paired (aQ K H) vs l∧l.length=75
theorem cE.mono {K:W.Frag} {H H':Hp} {v:V} {l:List S3} (h:cE K H v l) (s:ah H H'):cE K H' v l:=by
 obtain⟨p,vs,e,h1,h2,h3⟩:=h
 exact⟨p,vs,e,s _ _ h1,Paired.ck h2 fun _ _ q=>q.mono s,h3⟩
section
variable {X:Cx} {e a b c:Expr} {ta tb tc:TE} {pos:Pos} {f:Str}
def eT (K:W.Frag) (ta:TE) (f:Str):TE:=fun σ H Q=>ta σ H fun x H1=>∃v,(∃a,x= .ref a∧je K H1 a f v)∧Q v H1
theorem az (he:PE X e ta) (hb:attributeBase e f X.env (eval e X.env)=eval e X.env:=by kernel_rfl):PE X (.Attribute e f pos) (eT X.K ta f):=by
 intro pins s σ H Q I h
 refine qK hb (aV (he pins s σ H _ I h) fun u s1 zq0=>?_)
 obtain⟨x,H1,I1,rx,v,⟨a,ex,C,dx,fs,ea,c,n,l⟩,q⟩:=zq0
 subst ex
 obtain rfl:u=Value.ref a:=rx
 exact o5 I1 ea c n l fun u' s2 I2 ru=>⟨v,H1,I2,ru,q⟩
def wC (K:W.Frag) (g:S3→Int) (ta:TE):TE:=fun σ H Q=>ta σ H fun x H1=>∃s,aQ K H1 x s∧Q (.int (g s)) H1
theorem CG {n:Int} {g:S3→Int} {j:Nat} {p2:Pos} (hg:∀s:S3,nA [V.int s.1,V.int s.2.1,V.int s.2.2] n=some (.int (g s))) (ha:PE X a ta) (hs:sX (.Constant (.int n) j p2)):PE X (.Subscript a (.Constant (.int n) j p2) pos) (wC X.K g ta):=by
 intro pins s σ H Q I h
 refine Subscript_ (aV (ha pins s σ H _ I h) fun v s1 ⟨x,H1,I1,r1,z,⟨p,ex,hz⟩,q⟩=>wpAny_Constant_int ?_)
 exact Cj a _ pins _ σ H1 x (.int n) v _ Q (I1.tok _) r1 ⟨_,rfl⟩ ⟨p,_,n,_,ex,rfl,hz,hg z,q⟩ (hs _ _)
theorem dZ {j:Nat} {p2:Pos} (ha:PE X a ta):PE X (.Subscript a (.Constant (.int 0) j p2) pos) (wC X.K (fun s=>s.1) ta):=CG (fun _=>rfl) ha fun _ _=>rfl
theorem cU {j:Nat} {p2:Pos} (ha:PE X a ta):PE X (.Subscript a (.Constant (.int 1) j p2) pos) (wC X.K (fun s=>s.2.1) ta):=CG (fun _=>rfl) ha fun _ _=>rfl
theorem d7 {j:Nat} {p2:Pos} (ha:PE X a ta):PE X (.Subscript a (.Constant (.int 2) j p2) pos) (wC X.K (fun s=>s.2.2) ta):=CG (fun _=>rfl) ha fun _ _=>rfl
def Oj (K:W.Frag) (t:TA):TE:=fun σ H Q=>t σ H fun xs H1=>∃x y z,xs=[.int x,.int y,.int z]∧∀v H',ah H1 H'→aQ K H' v (x,y,z)→Q v H'
theorem dP {es:List Expr} {t:TA} {x1} (h:PA X es t):PE X (.Tuple es x1 pos) (Oj X.K t):=by
 intro pins s σ H Q I hq
 refine wpAny_Tuple_spliced (aV (h pos pins s σ H _ I hq) fun us s1 zq0=>?_)
 obtain⟨xs,H1,I1,r,x,y,z,ex,q⟩:=zq0
 subst ex
 have hl:us.length=3:=r.length.symm
 refine⟨by rw[hl];decide,?_⟩
 have hf:H1 s1.heap.objs.size=none:=I1.hok.fresh (Nat.le_refl _)
 refine⟨.ref s1.heap.objs.size,upd H1 s1.heap.objs.size (.tup [.int x,.int y,.int z]),I1.laid (t':=s1.toks) (fun b u e=>Heap.get?_push_of_some _ e) (Nat.le_refl _) ?_,rfl,q _ _ (ah.new hf) ⟨_,rfl,cI.of aH⟩⟩
 exact⟨by show 3≤sizeLine;decide,us,r,⟨_,Heap.get?_push_size _ rfl,rfl,_,rfl⟩⟩
def Ol (K:W.Frag) (ta tb:TE):TE:=fun σ H Q=>ta σ H fun x H1=>tb σ H1 fun y H2=>∃l i,cE K H2 x l∧y= .int i∧(0≤i∧i<75)∧∀u,aQ K H2 u (l.getD i.toNat (0,0,0))→Q u H2
theorem jf {α:Type} {xs:List α} {i:Int} {v:α} (h0:0≤i) (h:xs[i.toNat]? =some v):nA xs i=some v:=by
 have e:i=((i.toNat:Nat):Int):=by omega
 rw[e]
 exact ic h
theorem lR (ha:PE X a ta) (hb:PE X b tb) (hs:sX b:=by exact fun _ _=>rfl):PE X (.Subscript a b pos) (Ol X.K ta tb):=by
 intro pins s σ H Q I h
 refine Subscript_ (vQ ha hb I h fun v u s2 x y H2 I2 rx ry zq0=>?_)
 obtain⟨l,i,⟨p,vs,ex,h1,h2,h3⟩,ey,hi,q⟩:=zq0
 have hlt:i.toNat<l.length:=by rw[h3];omega
 obtain⟨w',e1,e2⟩:=Paired.at (n:=i.toNat) (y:=l.getD i.toNat (0,0,0)) h2 (by rw[List.getD_eq_getElem?_getD,List.getElem?_eq_getElem hlt];rfl)
 exact bR a b pins s2 σ H2 x y v u Q I2 rx ry ⟨p,vs,i,w',ex,ey,aJ.of h1,jf hi.1 e1,q _ e2⟩ (hs _ _)
def Om (K:W.Frag) (ta tb:TE):TE:=fun σ H Q=>ta σ H fun x H1=>∃p,dg K H1 x p∧tb σ H1 fun y H2=>ah H1 H2∧∃i j,y= .int i∧0≤i∧p[i.toNat]? =some j∧∀u,bf K H2 u j→Q u H2
theorem pD {p2:Pos} (ha:PE X a ta) (hb:PE X b tb) (hbase:attributeBase a "instructions" X.env (eval a X.env)=eval a X.env:=by kernel_rfl) (hs:sX b:=by exact fun _ _=>rfl):PE X (.Subscript (.Attribute a "instructions" p2) b pos) (Om X.K ta tb):=by
 intro pins s σ H Q I h
 refine Subscript_ (qK hbase (aV (ha pins s σ H _ I h) fun u s1 zq0=>?_))
 obtain⟨x,H1,I1,rx,p,⟨⟨a',C,dx,fs,il,bl,vs,e,h1,h2,h3,h4,h5,h6,h7,h8,h9⟩,hl⟩,q1⟩:=zq0
 subst e
 obtain rfl:u=Value.ref a':=rx
 refine o5 I1 h1 h2 h3 h5 fun u' s2 I2 ru=>?_
 refine aV (hb pins s2 σ H1 _ I2 q1) fun iv s3 zq0=>?_
 obtain⟨y,H2,I3,ry,sm,i,j,ey,hi,hj,q⟩:=zq0
 obtain⟨w',e1,e2⟩:=Paired.at h8 hj
 exact bR _ b pins s3 σ H2 (.ref il) y u' iv Q I3 ru ry ⟨il,vs,i,w',rfl,ey,aJ.of (sm _ _ h7),jf hi e1,q _ (e2.mono sm)⟩ (hs _ _)
theorem lS:∀(p:List Insn) (b:Bool),(beginsFrom b p).length=p.length
 |[],b=>by cases b<;>rfl
 |i::r,true=>by show(beginsFrom false r).length+1=r.length+1;rw[lS r]
 |i::r,false=>by show(beginsFrom i.wide r).length+1=r.length+1;rw[lS r]
def Oo (K:W.Frag) (ta:TE):TE:=fun σ H Q=>ta σ H fun x H1=>∃p,dg K H1 x p∧∀a,H1 a=some (.lst ((beginsFrom false p).map V.bl))→Q (.ref a) H1
theorem CH (ha:PE X a ta) (hbase:attributeBase a "begins" X.env (eval a X.env)=eval a X.env:=by kernel_rfl):PE X (.Attribute a "begins" pos) (Oo X.K ta):=by
 intro pins s σ H Q I h
 refine qK hbase (aV (ha pins s σ H _ I h) fun u s1 zq0=>?_)
 obtain⟨x,H1,I1,rx,p,⟨⟨a',C,dx,fs,il,bl,vs,e,h1,h2,h3,h4,h5,h6,h7,h8,h9⟩,hl⟩,q1⟩:=zq0
 subst e
 obtain rfl:u=Value.ref a':=rx
 exact o5 I1 h1 h2 h4 h6 fun u' s2 I2 ru=>⟨.ref bl,H1,I2,ru,q1 _ h9⟩
def Oq (K:W.Frag) (ta:TE):TE:=fun σ H Q=>ta σ H fun x H1=>∃p,dg K H1 x p∧∀a vs,H1 a=some (.lst vs)→Paired (bf K H1) vs p→Q (.ref a) H1
theorem CI (ha:PE X a ta) (hbase:attributeBase a "instructions" X.env (eval a X.env)=eval a X.env:=by kernel_rfl):PE X (.Attribute a "instructions" pos) (Oq X.K ta):=by
 intro pins s σ H Q I h
 refine qK hbase (aV (ha pins s σ H _ I h) fun u s1 zq0=>?_)
 obtain⟨x,H1,I1,rx,p,⟨⟨a',C,dx,fs,il,bl,vs,e,h1,h2,h3,h4,h5,h6,h7,h8,h9⟩,hl⟩,q1⟩:=zq0
 subst e
 obtain rfl:u=Value.ref a':=rx
 exact o5 I1 h1 h2 h3 h5 fun u' s2 I2 ru=>⟨.ref il,H1,I2,ru,q1 _ _ h7 h8⟩
theorem aU {x:Str} {n:Int} (hm:∃t,X.mg x=some (.int n t)) (hg:Gl X x:=by rfl) (hd:(x==("__debug__":Str))=false:=by decide+kernel):PE X (.Name x pos) (tC (.int n)):=by
 obtain⟨t,hm⟩:=hm
 exact Fq hg hm ⟨t,rfl⟩ hd
theorem cY {x:Str} {a:Addr} (hm:X.mg x=some (.ref a)) (hg:Gl X x:=by rfl) (hd:(x==("__debug__":Str))=false:=by decide+kernel):PE X (.Name x pos) (tC (.ref a)):=Fq hg hm rfl hd
end
structure jL where
 (GW jg GX GY GZ G0 G4 G6 G7 G8 G9 Hf Hg Hh Hi Hj Hl Ho Hq Hr Hs CJ CK Ht Hu Hv Hw Hx Hy Hz HA HB HC CL HD HE HF HG HH HJ HK HL CM CN HM CO HN HP HQ HR:Addr)
def lT:List V:=[V.int 6,V.int 7,V.int 12,V.int 13]
def wD:List V:=[V.int 0,V.int 1,V.int 64,V.int 65,V.int 80,V.int 81,V.int 160,V.int 161,V.int 225,V.int 241]
def wF:List V:=[V.int 1,V.int 2,V.int 3,V.int 4,V.int 5,V.int 6,V.int 7,V.int 10,V.int 11,V.int 12,V.int 13]
def CP (A:jL):List V:=[V.ref A.Hw,V.ref A.Ht,V.ref A.Hv,V.ref A.Hu,V.ref A.CJ,V.ref A.CK,V.ref A.CK,V.ref A.CJ]
def CQ (A:jL):List V:=[V.ref A.HN,V.ref A.HM,V.ref A.CO,V.ref A.CO,V.ref A.CM,V.ref A.CN,V.ref A.CN,V.ref A.CM]
def CS (A:jL):List (Key×V):=[(Sum.inl 0,V.ref A.Hj),(Sum.inl 1,V.ref A.HQ),(Sum.inl 2,V.ref A.HB),(Sum.inl 3,V.ref A.Hr),(Sum.inl 4,V.ref A.HR),(Sum.inl 5,V.ref A.HH),(Sum.inl 6,V.ref A.HJ),(Sum.inl 7,V.ref A.HK),(Sum.inl 8,V.ref A.HC),(Sum.inl 9,V.ref A.HD),(Sum.inl 10,V.ref A.Ho),(Sum.inl 11,V.ref A.Hz),(Sum.inl 12,V.ref A.HL)]
def CT (A:jL):List (Key×V):=[(Sum.inl 3,V.ref A.Hs),(Sum.inl 9,V.ref A.HE)]
def CU (A:jL):List (Key×V):=[(Sum.inl 0,V.ref A.Hi),(Sum.inl 1,V.ref A.HP),(Sum.inl 2,V.ref A.HA),(Sum.inl 3,V.ref A.Hq),(Sum.inl 4,V.ref A.CL),(Sum.inl 5,V.ref A.Hl),(Sum.inl 6,V.ref A.Hx),(Sum.inl 7,V.ref A.HG),(Sum.inl 9,V.ref A.Hy),(Sum.inl 10,V.ref A.CL),(Sum.inl 12,V.ref A.HF)]
def iJ:List (Key×V):=[(Sum.inl 1,V.str ("==":Str)),(Sum.inl 2,V.str (">":Str)),(Sum.inl 3,V.str (">=":Str)),(Sum.inl 5,V.str ("!=":Str)),(Sum.inl 6,V.str (">":Str)),(Sum.inl 7,V.str (">=":Str)),(Sum.inl 10,V.str ("<":Str)),(Sum.inl 11,V.str ("<=":Str)),(Sum.inl 12,V.str ("<":Str)),(Sum.inl 13,V.str ("<=":Str))]
def wG:List (Key×V):=[(Sum.inr ("==":Str),V.str ("!=":Str)),(Sum.inr ("!=":Str),V.str ("==":Str)),(Sum.inr (">":Str),V.str ("<=":Str)),(Sum.inr ("<=":Str),V.str (">":Str)),(Sum.inr ("<":Str),V.str (">=":Str)),(Sum.inr (">=":Str),V.str ("<":Str))]
def wH:List (Key×V):=[(Sum.inr ("==":Str),V.str ("==":Str)),(Sum.inr ("!=":Str),V.str ("!=":Str)),(Sum.inr (">":Str),V.str ("<":Str)),(Sum.inr ("<":Str),V.str (">":Str)),(Sum.inr (">=":Str),V.str ("<=":Str)),(Sum.inr ("<=":Str),V.str (">=":Str))]
def CV:List (Key×V):=[(Sum.inl 0,V.int 4),(Sum.inl 8,V.int 2),(Sum.inl 16,V.int 1),(Sum.inl 24,V.int 8)]
structure Txt (P:Program) (w:World) (K:W.Frag) (mg:Str→Option Value) (A:jL):Prop where
 wI:Def K mg "ones" (top 7)
 wJ:Def K mg "signed" (top 8)
 wK:Def K mg "width" (top 9)
 wL:Def K mg "added" (top 10)
 wM:Def K mg "subtracted" (top 11)
 wN:Def K mg "multiplied" (top 12)
 wO:Def K mg "divided" (top 13)
 wQ:Def K mg "remainder" (top 14)
 wR:Def K mg "divided_signed" (top 15)
 wU:Def K mg "remainder_signed" (top 16)
 wV:Def K mg "united" (top 17)
 wW:Def K mg "shared" (top 18)
 wX:Def K mg "differing" (top 19)
 wY:Def K mg "shifted_left" (top 20)
 wZ:Def K mg "shifted_right" (top 21)
 w9:Def K mg "shifted_right_signed" (top 22)
 xg:Def K mg "negated" (top 23)
 xh:Def K mg "moved" (top 24)
 xj:Def K mg "turned" (top 27)
 xo:Def K mg "swapped" (top 28)
 xq:Def K mg "outcome" (top 29)
 xr:Def K mg "one_number" (top 38)
 xu:Def K mg "anything" (top 39)
 xx:Def K mg "fitting" (top 40)
 xy:Def K mg "is_one_number" (top 41)
 xA:Def K mg "met" (top 42)
 xB:Def K mg "add_span" (top 43)
 xC:Def K mg "sub_span" (top 44)
 xD:Def K mg "mul_span" (top 45)
 xE:Def K mg "div_span" (top 46)
 xF:Def K mg "mod_span" (top 47)
 xG:Def K mg "and_span" (top 48)
 xH:Def K mg "or_span" (top 49)
 xJ:Def K mg "left_span" (top 50)
 xK:Def K mg "right_span" (top 51)
 xM:Def K mg "right_signed_span" (top 52)
 xN:Def K mg "number_span" (top 54)
 xO:Def K mg "moved_span" (top 55)
 xP:Def K mg "data_plus" (top 56)
 xQ:Def K mg "data_less" (top 57)
 xR:Def K mg "stack_at" (top 58)
 xS:Def K mg "sum_span" (top 59)
 xT:Def K mg "difference_span" (top 60)
 xU:Def K mg "address_span" (top 61)
 xV:Def K mg "lower_half" (top 62)
 xW:Def K mg "is_known" (top 63)
 xX:Def K mg "arithmetic_span" (top 64)
 xY:Def K mg "operand" (top 70)
 xZ:Def K mg "unequal" (top 71)
 x6:Def K mg "cut" (top 72)
 x8:Def K mg "is_none" (top 73)
 x9:Def K mg "way_on" (top 74)
 ya:Def K mg "is_telling" (top 75)
 yb:Def K mg "both_ways" (top 76)
 yc:Def K mg "beginnings" (top 90)
 yd:Def K mg "begins_at" (top 91)
 ye:Def K mg "is_exchange" (top 92)
 yf:Def K mg "is_jump" (top 93)
 yg:Def K mg "jump_place" (top 94)
 yh:Def K mg "places_behind" (top 95)
 yi:Def K mg "wide_number" (top 96)
 yj:Def K mg "has_operand" (top 97)
 yk:Def K mg "is_wide" (top 98)
 yl:Def K mg "is_load" (top 99)
 ym:Def K mg "is_store_of_imm" (top 100)
 yo:Def K mg "is_store" (top 101)
 yp:Def K mg "is_move" (top 102)
 yq:Def K mg "is_swap" (top 103)
 yr:Def K mg "is_arithmetic" (top 104)
 yt:Def K mg "is_branch" (top 105)
 yu:Def K mg "is_second_half" (top 107)
 yw:Def K mg "is_formed" (top 108)
 yx:Def K mg "is_written" (top 109)
 yy:Def K mg "has_wrong_registers" (top 110)
 yz:Def K mg "fault_at" (top 111)
 yC:Def K mg "first_fault" (top 112)
 yD:Def K mg "is_memory" (top 115)
 yE:Def K mg "address_of" (top 116)
 yF:Def K mg "is_within" (top 117)
 yG:Def K mg "is_aligned" (top 118)
 yH:Def K mg "is_sure" (top 119)
 yI:Def K mg "is_whole_piece" (top 120)
 yJ:Def K mg "pieces_touched" (top 121)
 yK:Def K mg "loaded" (top 122)
 yL:Def K mg "stored" (top 123)
 yM:Def K mg "after_store" (top 124)
 yN:Def K mg "after_memory" (top 125)
 yO:Def K mg "first_state" (top 130)
 yP:Def K mg "is_good" (top 131)
 yQ:Def K mg "after_helper" (top 132)
 yR:Def K mg "with_dst" (top 133)
 yS:Def K mg "ways_of_jump" (top 134)
 yT:Def K mg "ways_behind" (top 135)
 yU:Def K mg "joined" (top 136)
 yV:Def K mg "judged" (top 137)
 yW:Def K mg "memory_around" (top 147)
 yX:Def K mg "operand_word" (top 148)
 yY:Def K mg "step_wide" (top 149)
 yZ:Def K mg "step_arithmetic" (top 150)
 y9:Def K mg "step_load" (top 151)
 za:Def K mg "step_store" (top 152)
 zb:Def K mg "exchange" (top 153)
 zc:Def K mg "exchanged" (top 154)
 zd:Def K mg "is_related" (top 155)
 ze:Def K mg "is_so" (top 156)
 zf:Def K mg "step_branch" (top 157)
 zg:Def K mg "ask_helper" (top 158)
 zh:Def K mg "finished_run" (top 160)
 zj:Def K mg "told_of_run" (top 161)
 zk:Def K mg "are_bytes" (top 169)
 zl:Def K mg "is_code" (top 170)
 zm:Def K mg "is_data" (top 171)
 zo:Def K mg "are_answers" (top 172)
 zp:Def K mg "answer_of" (top 173)
 zq:Def K mg "answers" (top 174)
 zu:∃t,mg "DIV"=some (.int 3 t)
 qW:∃t,mg "NEG"=some (.int 8 t)
 zw:∃t,mg "MOD"=some (.int 9 t)
 pF:∃t,mg "MOV"=some (.int 11 t)
 nH:∃t,mg "SWAP"=some (.int 13 t)
 qX:∃t,mg "GREATEST_WORD"=some (.int 18446744073709551615 t)
 cP:∃t,mg "NUMBER"=some (.int 0 t)
 kP:∃t,mg "DATA"=some (.int 1 t)
 jM:∃t,mg "STACK"=some (.int 2 t)
 lU:∃t,mg "STACK_SIZE"=some (.int 512 t)
 zx:∃t,mg "MOST_DATA_PLACE"=some (.int 1048576 t)
 nI:∃t,mg "WIDE"=some (.int 24 t)
 zy:∃t,mg "ALWAYS_BY_OFF"=some (.int 5 t)
 tM:∃t,mg "ALWAYS_BY_IMM"=some (.int 6 t)
 pG:∃t,mg "HELPER"=some (.int 133 t)
 nJ:∃t,mg "END"=some (.int 149 t)
 qY:∃t,mg "COMPARE"=some (.int 241 t)
 pH:∃t,mg "LAST_REGISTER"=some (.int 10 t)
 tN:∃t,mg "FIRST_PIECE"=some (.int 11 t)
 tO:∃t,mg "SLOTS"=some (.int 75 t)
 qZ:∃t,mg "MOST_DATA"=some (.int 256 t)
 tP:∃t,mg "DATA_BASE"=some (.int 4294967296 t)
 tQ:∃t,mg "STACK_BASE"=some (.int 8589934080 t)
 tR:∃t,mg "ENDED"=some (.int 0 t)
 tS:∃t,mg "ASTRAY"=some (.int 1 t)
 zz:∃t,mg "OUT_OF_STEPS"=some (.int 2 t)
 zA:∃t,mg "STOPPED_BY_HELPER"=some (.int 3 t)
 zB:∃t,mg "MOST_INSTRUCTIONS"=some (.int 128 t)
 zC:∃t,mg "MOST_STEPS"=some (.int 2000 t)
 zD:∃t,mg "NO_WAY"=some (.int 3 t)
 kQ:mg "ANY"=some (.ref A.GW)
 dG:∀H,aQ K H (.ref A.GW) ((0,0,18446744073709551615):S3)
 HS:mg "ZERO"=some (.ref A.jg)
 tT:∀H,aQ K H (.ref A.jg) ((0,0,0):S3)
 d8:mg "len"=none
 kR:mg "list"=none
 jh:mg "range"=none
 nL:mg "max"=none
 nM:mg "min"=none
 rm:mg "abs"=none
 tU:mg "all"=none
 CW:mg "zip"=none
 CY:mg "WITH_SIGN"=some (.ref A.GX)
 pI:∀H,cI K H A.GX lT
 Ot:mg "EXCHANGES"=some (.ref A.GY)
 zE:∀H,cI K H A.GY wD
 Ou:mg "COMPARISONS"=some (.ref A.GZ)
 tV:∀H,cI K H A.GZ wF
 Ov:mg "FORMS"=some (.ref A.G0)
 zF:∀H,cI K H A.G0 (CP A)
 Ow:mg "STEPS"=some (.ref A.G4)
 zG:∀H,cI K H A.G4 (CQ A)
 Ox:mg "PLAIN"=some (.ref A.G6)
 tW:KD P w K A.G6 (CS A)
 Oz:mg "SIGNED"=some (.ref A.G7)
 zH:KD P w K A.G7 (CT A)
 OA:mg "RULES"=some (.ref A.G8)
 zI:KD P w K A.G8 (CU A)
 zJ:mg "RELATIONS"=some (.ref A.G9)
 iK:KD P w K A.G9 iJ
 OB:mg "OPPOSITES"=some (.ref A.Hf)
 zK:KD P w K A.Hf wG
 OC:mg "MIRRORED"=some (.ref A.Hg)
 zL:KD P w K A.Hg wH
 OD:mg "SIZES"=some (.ref A.Hh)
 zM:KD P w K A.Hh CV
 pJ:mg "add_span"=some (.ref A.Hi)
 tX:mg "added"=some (.ref A.Hj)
 pK:mg "and_span"=some (.ref A.Hl)
 tY:mg "differing"=some (.ref A.Ho)
 lV:mg "div_span"=some (.ref A.Hq)
 lW:mg "divided"=some (.ref A.Hr)
 kT:mg "divided_signed"=some (.ref A.Hs)
 eU:mg "is_arithmetic"=some (.ref A.CJ)
 dM:mg "is_branch"=some (.ref A.CK)
 jN:mg "is_load"=some (.ref A.Ht)
 jO:mg "is_store"=some (.ref A.Hu)
 lX:mg "is_store_of_imm"=some (.ref A.Hv)
 ji:mg "is_wide"=some (.ref A.Hw)
 lY:mg "left_span"=some (.ref A.Hx)
 kU:mg "mod_span"=some (.ref A.Hy)
 tZ:mg "moved"=some (.ref A.Hz)
 pL:mg "mul_span"=some (.ref A.HA)
 t6:mg "multiplied"=some (.ref A.HB)
 t7:mg "negated"=some (.ref A.HC)
 jP:mg "or_span"=some (.ref A.CL)
 lZ:mg "remainder"=some (.ref A.HD)
 kW:mg "remainder_signed"=some (.ref A.HE)
 l7:mg "right_signed_span"=some (.ref A.HF)
 jQ:mg "right_span"=some (.ref A.HG)
 t8:mg "shared"=some (.ref A.HH)
 t9:mg "shifted_left"=some (.ref A.HJ)
 ua:mg "shifted_right"=some (.ref A.HK)
 uc:mg "shifted_right_signed"=some (.ref A.HL)
 HU:mg "step_arithmetic"=some (.ref A.CM)
 jR:mg "step_branch"=some (.ref A.CN)
 nN:mg "step_load"=some (.ref A.HM)
 l8:mg "step_store"=some (.ref A.CO)
 pM:mg "step_wide"=some (.ref A.HN)
 l9:mg "sub_span"=some (.ref A.HP)
 ud:mg "subtracted"=some (.ref A.HQ)
 ue:mg "united"=some (.ref A.HR)
theorem mh {c:Bool} {A B:Prop} (h1:c=true→B) (h2:¬c=true→A):if(!c)=true then A else B:=by
 cases c with
 |true=>exact h1 rfl
 |false=>exact h2 (by decide)
def aW:Insn:=⟨0,0,0,0,0⟩
theorem mj {p:List Insn} {i:Nat} (h:i<p.length):p[i]? =some (p.getD i aW):=by
 rw[List.getD_eq_getElem?_getD,List.getElem?_eq_getElem h];rfl
def d3 (s:S3):PyData:= .tuple [.int s.1,.int s.2.1,.int s.2.2]
theorem HV {K:W.Frag} {H:Hp} {v:V} {s:S3} (h:aQ K H v s):Dp K H v (d3 s):=by
 obtain⟨p,rfl,h⟩:=h
 exact .tup h (.cons (.int _) (.cons (.int _) (.cons (.int _) .nil)))
end My
namespace L2
open PySem PySem.Spec PyProof.Rows
open PySem.W (Frag)
open Path (Insn bitsOf State_ numbers inBits Range_ beginsFrom askTold littleOf helpersIn Bytes)
structure cg (K:W.Frag) (x qual:Str) (st:Stmt) (f:Addr):Prop where
 ex:∃(fd:FuncData),pA K x qual st f fd
structure dQ (P:Program) (w:World) (K:W.Frag) (mg:Str→Option Value) (base:Heap) (k:Nat) (f:Addr) (ps:List Str) (sp:Sp):Prop where
 ex:∃(fd:FuncData),Binds K fd ps []∧dF P w K mg base gS k f fd ps sp
section
variable {P:Program} {w:World} {K:W.Frag} {mg:Str→Option Value} {base:Heap}
theorem fH {x qual:Str} {st:Stmt} {N ps:List Str} {k:Nat} {sp:Sp} {f:Addr} (D:cg K x qual st f) (S:aI N ps (aG st))
  (hb:∀(kV doc pm:Value) (an:Option Addr) (cdv ct:Value) (us:List Value),us.length=ps.length→bindArgs (W.fnOf x qual (nD st) (jd st) (aG st) .none kV doc pm an cdv ct) ⟨us,[]⟩=pure (ps.zip us))
  (len:∀vs H Q E,sp vs H Q E→vs.length=ps.length)
  (hbody:∀(cdv:Value) (A:Around) (outer:List Env) (s:Shared) (H:Hp) (vs:List V) (Q:VK) (E:XK),cD k (A.deeper (envOfC qual (aG st) s.heap.objs.size f cdv))→sp vs H Q E→
   ∃t,gc (lN gS P w K mg base N qual (aG st) f cdv A outer s H E).oU (jd st) t∧t {nx:=fun _ H'=>Q .aK H',rt:=Q} (start N vs) H):dQ P w K mg base (k+1) f ps sp:=by
 obtain⟨fd,F⟩:=D.ex
 exact⟨fd,F.binds hb,F.ok S len hbody⟩
end
section
variable {X:Cx} {k:Nat} {f C:Addr} {ps:List Str} {sp:Sp} {x m:Str} {p pos apos:Pos} {e o:Expr} {es:List Expr} {ta:TE} {t:TA}
theorem jj {pl:Sem Bool} (c:cO X.K C) (hm:Meth X.K C m f) (F:dQ X.prog X.w X.K X.mg X.base k f ps sp) (hr:cD k X.A) (he:PE X o ta) (ha:PA X (e::es) t)
  (hst:starEach (e::es) X.env=(false,eval e X.env)::starEach es X.env:=by rfl) (hpl:(backTo pos (starEach es X.env)).any (·.1)=false:=by rfl)
  (ht:eval (.Call (.Attribute o m apos) (e::es) [] pos) X.env=(do
   let ov ←eval o X.env
   standAt apos.atName
   let (f,first) ←holding [ov] (getMethod ov m pl)
   callWith pos f first (backTo pos (starEach (e::es) X.env)) (backToKw pos (keywordEach [] X.env))):=by rfl):
  PE X (.Call (.Attribute o m apos) (e::es) [] pos) (sU C m sp [] E0 ta t):=by
 obtain⟨fd,hb,F⟩:=F.ex
 exact MS he c hm F hr hb .nil qU ha hst hpl ht
theorem jk {pl:Sem Bool} (c:cO X.K C) (hm:Meth X.K C m f) (F:dQ X.prog X.w X.K X.mg X.base k f ps sp) (hr:cD k X.A) (he:PE X o ta)
  (ht:eval (.Call (.Attribute o m apos) [] [] pos) X.env=(do
   let ov ←eval o X.env
   standAt apos.atName
   let (f,first) ←holding [ov] (getMethod ov m pl)
   callWith pos f first (backTo pos (starEach [] X.env)) (backToKw pos (keywordEach [] X.env))):=by rfl):
  PE X (.Call (.Attribute o m apos) [] [] pos) (sU C m sp [] E0 ta cK):=by
 obtain⟨fd,hb,F⟩:=F.ex
 exact MT he c hm F hr hb .nil qU ht
theorem pN (M:Mk X.K C f) (F:dQ X.prog X.w X.K X.mg X.base k f ps sp) (hr:cD (k+1) X.A) (hm:X.mg x=some (.ref C)) (ha:PA X (e::es) t) (hg:Gl X x:=by rfl) (hdb:(x==("__debug__":Str))=false:=by decide+kernel) (he:starEach (e::es) X.env=(false,eval e X.env)::starEach es X.env:=by rfl)
  (hpl:(backTo pos (starEach es X.env)).any (·.1)=false:=by rfl):PE X (.Call (.Name x p) (e::es) [] pos) (vW C sp [] E0 t):=by
 obtain⟨fd,hb,F⟩:=F.ex
 exact MU M F hr hg hm hb .nil qU ha hdb he hpl
theorem OE (M:Mk X.K C f) (F:dQ X.prog X.w X.K X.mg X.base k f ps sp) (hr:cD (k+1) X.A) (hm:X.mg x=some (.ref C)) (hg:Gl X x:=by rfl) (hdb:(x==("__debug__":Str))=false:=by decide+kernel):PE X (.Call (.Name x p) [] [] pos) (vW C sp [] E0 cK):=by
 obtain⟨fd,hb,F⟩:=F.ex
 exact MV M F hr hg hm hb .nil qU hdb
end
end L2
namespace My
open PySem PySem.Spec PyProof.Rows L2
open PySem.W (Frag)
open Path (Insn bitsOf State_ numbers inBits Range_ beginsFrom askTold littleOf helpersIn Bytes)
structure bE where
 (gh CZ mq C0 nO C1 gv C2 C3 C4 C5 cy C6 b8 C7 C8 C9 Dc dR Dd De Df Dg Dh Di Dj:Addr)
structure cF (P:Program) (w:World) (K:W.Frag) (mg:Str→Option Value) (A:jL) (B:bE):Prop where
 t:Txt P w K mg A
 OF:mg "Instruction"=some (.ref B.gh)
 uf:cO K B.gh
 zN:bV K B.gh "code"
 zO:bV K B.gh "group"
 zP:bV K B.gh "op"
 zQ:bV K B.gh "way"
 zR:bV K B.gh "size"
 zS:bV K B.gh "from_src"
 zT:bV K B.gh "dst"
 zU:bV K B.gh "src"
 zV:bV K B.gh "off"
 zW:bV K B.gh "imm"
 zX:cg K "__init__" "Instruction.__init__" (inClass (top 88) 0) B.CZ
 zY:Mk K B.gh B.CZ
 OG:mg "Program"=some (.ref B.mq)
 pO:cO K B.mq
 ug:bV K B.mq "instructions"
 zZ:bV K B.mq "begins"
 z8:cg K "__init__" "Program.__init__" (inClass (top 89) 0) B.C0
 z9:Mk K B.mq B.C0
 OH:mg "Judgement"=some (.ref B.nO)
 jl:cO K B.nO
 nP:bV K B.nO "states"
 rq:bV K B.nO "wrong"
 Aa:cg K "__init__" "Judgement.__init__" (inClass (top 129) 0) B.C1
 Ab:Mk K B.nO B.C1
 HW:mg "Memory"=some (.ref B.gv)
 eG:cO K B.gv
 pP:bV K B.gv "base"
 mw:bV K B.gv "cells"
 Ac:cg K "__init__" "Memory.__init__" (inClass (top 145) 0) B.C2
 uh:Mk K B.gv B.C2
 Ad:cg K "is_around" "Memory.is_around" (inClass (top 145) 1) B.C3
 um:Meth K B.gv "is_around" B.C3
 Ae:cg K "number_at" "Memory.number_at" (inClass (top 145) 2) B.C4
 uo:Meth K B.gv "number_at" B.C4
 Af:cg K "put_number" "Memory.put_number" (inClass (top 145) 3) B.C5
 rA:Meth K B.gv "put_number" B.C5
 OI:mg "Run"=some (.ref B.cy)
 eV:cO K B.cy
 eH:bV K B.cy "registers"
 pQ:bV K B.cy "data"
 rB:bV K B.cy "stack"
 uq:bV K B.cy "helpers"
 nQ:bV K B.cy "asked"
 ie:bV K B.cy "place"
 jS:bV K B.cy "ending"
 Ag:cg K "__init__" "Run.__init__" (inClass (top 146) 0) B.C6
 Ah:Mk K B.cy B.C6
 OJ:mg "Calls"=some (.ref B.b8)
 dN:cO K B.b8
 rC:bV K B.b8 "numbers"
 mz:bV K B.b8 "place"
 Ai:cg K "__init__" "Calls.__init__" (inClass (top 167) 0) B.C7
 Aj:Mk K B.b8 B.C7
 Ak:cg K "has_more" "Calls.has_more" (inClass (top 167) 1) B.C8
 Al:Meth K B.b8 "has_more" B.C8
 Am:cg K "take" "Calls.take" (inClass (top 167) 2) B.C9
 kX:Meth K B.b8 "take" B.C9
 An:cg K "take_row" "Calls.take_row" (inClass (top 167) 3) B.Dc
 rD:Meth K B.b8 "take_row" B.Dc
 OL:mg "Record"=some (.ref B.dR)
 cQ:cO K B.dR
 mC:bV K B.dR "program"
 mD:bV K B.dR "judgement"
 kY:bV K B.dR "last_run"
 Ao:cg K "__init__" "Record.__init__" (inClass (top 168) 0) B.Dd
 Aq:Mk K B.dR B.Dd
 Ar:cg K "load" "Record.load" (inClass (top 168) 1) B.De
 As:Meth K B.dR "load" B.De
 Au:cg K "judge" "Record.judge" (inClass (top 168) 2) B.Df
 Av:Meth K B.dR "judge" B.Df
 Aw:cg K "tell" "Record.tell" (inClass (top 168) 3) B.Dg
 Ax:Meth K B.dR "tell" B.Dg
 Ay:cg K "run" "Record.run" (inClass (top 168) 4) B.Dh
 Az:Meth K B.dR "run" B.Dh
 AA:cg K "tell_register" "Record.tell_register" (inClass (top 168) 5) B.Di
 AB:Meth K B.dR "tell_register" B.Di
 AD:cg K "tell_stack" "Record.tell_stack" (inClass (top 168) 6) B.Dj
 AE:Meth K B.dR "tell_stack" B.Dj
def A0:jL:=⟨164,165,350,403,404,557,897,141,142,271,349,351,352,402,207,42,242,105,228,63,77,549,556,514,528,521,507,256,235,140,221,56,133,249,70,84,270,263,98,112,119,126,840,889,847,854,833,214,49,91⟩
def B0:bE:=⟨421,418,440,437,691,688,787,763,770,777,784,808,805,962,938,945,952,959,1025,980,987,994,1001,1008,1015,1022⟩
structure aR (K:W.Frag) (x:Str) (st:Stmt):Prop where
 ex:∃(f:Addr) (oc:Value) (od:Option Addr) (kV doc pm:Value) (an:Option Addr) (cdv ct:Value) (sl:Array (Option Value)),W.nsIn K mainGlobals x=some (some (.ref f))∧
  K.lookup f=some ⟨oc,od,.func (W.fnOf x x (nD st) (jd st) (aG st) .none kV doc pm an cdv ct),sl⟩∧W.codeIn K cdv x=true∧W.keepIn K (.ref f)=true
section
variable {K:W.Frag} {w:World} {x q m:Str} {st:Stmt} {f C:Addr} {oc:Value} {od:Option Addr} {kV doc pm:Value} {an:Option Addr} {cdv ct:Value} {sl:Array (Option Value)}
theorem Z2 (a:W.nsIn K mainGlobals x=some (some (.ref f))) (l:K.lookup f=some ⟨oc,od,.func (W.fnOf x x (nD st) (jd st) (aG st) .none kV doc pm an cdv ct),sl⟩) (c:W.codeIn K cdv x=true) (k:W.keepIn K (.ref f)=true):aR K x st:=⟨⟨f,oc,od,kV,doc,pm,an,cdv,ct,sl,a,l,c,k⟩⟩
theorem Z5 (l:K.lookup f=some ⟨oc,od,.func (W.fnOf x q (nD st) (jd st) (aG st) .none kV doc pm an cdv ct),sl⟩) (c:W.codeIn K cdv q=true) (k:W.keepIn K (.ref f)=true):cg K x q st f:=⟨⟨_,N4 l c k⟩⟩
theorem Z4 (a:W.plainGet K C Str.empty=true) (b:W.hasDictIn K C=true) (c:W.plainOver K C=true) (d:W.findIn K (.ref C) "__setattr__"=some (some (.builtin "object.__setattr__"))):cO K C:=⟨a,b,c,d⟩
theorem Z6 (a:W.makesIn K C=true) (b:W.findIn K (.ref C) "__init__"=some (some (.ref f))) (c:W.isFn K (.ref f)=true) (d:W.keepIn K (.ref C)=true):Mk K C f:=⟨a,b,c,d⟩
theorem Z7 (a:W.findIn K (.ref C) m=some (some (.ref f))) (b:W.isFn K (.ref f)=true) (c:W.keepIn K (.ref f)=true):Meth K C m f:=⟨a,b,c⟩
structure cR (K:W.Frag) (x:Str) (n:Int):Prop where
 ex:∃t,W.nsIn K mainGlobals x=some (some (.int n t))
theorem Z3 {n:Int} {t:Nat} (a:W.nsIn K mainGlobals x=some (some (.int n t))):cR K x n:=⟨⟨t,a⟩⟩
structure nR (K:W.Frag) (a:Addr) (vs:List V):Prop where
 ex:∃(its:Array Value) (n:Nat) (sl:Array (Option Value)) (od:Option Addr),K.lookup a=some ⟨.type "tuple",od,.seq its n,sl⟩∧Vals vs its.toList
theorem BO {a:Addr} {its:Array Value} {n:Nat} {vs:List V} (l:K.lookup a=some ⟨.type "tuple",od,.seq its n,sl⟩) (v:Vals vs its.toList):nR K a vs:=⟨⟨its,n,sl,od,l,v⟩⟩
def Dk (w:World):List DictEntry→List (Key×V)→Prop
 |[],[]=>True
 |e::es,kv::kvs=>oK kv.1 e.key=true∧e.hash=Fg w kv.1∧RelV kv.2 e.val∧Dk w es kvs
 |_,_=>False
structure nS (w:World) (K:W.Frag) (a:Addr) (kvs:List (Key×V)):Prop where
 ex:∃(es:Array DictEntry) (ep:Nat),K.lookup a=some ⟨.type "dict",none,.dict es ep,#[]⟩∧Dk w es.toList kvs
theorem vt {a:Addr} {es:Array DictEntry} {ep:Nat} {kvs:List (Key×V)} (l:K.lookup a=some ⟨.type "dict",none,.dict es ep,#[]⟩) (v:Dk w es.toList kvs):nS w K a kvs:=⟨⟨es,ep,l,v⟩⟩
end
structure ur (w:World) (K:W.Frag):Prop where
 wI:aR K "ones" (top 7)
 wJ:aR K "signed" (top 8)
 wK:aR K "width" (top 9)
 wL:aR K "added" (top 10)
 wM:aR K "subtracted" (top 11)
 wN:aR K "multiplied" (top 12)
 wO:aR K "divided" (top 13)
 wQ:aR K "remainder" (top 14)
 wR:aR K "divided_signed" (top 15)
 wU:aR K "remainder_signed" (top 16)
 wV:aR K "united" (top 17)
 wW:aR K "shared" (top 18)
 wX:aR K "differing" (top 19)
 wY:aR K "shifted_left" (top 20)
 wZ:aR K "shifted_right" (top 21)
 w9:aR K "shifted_right_signed" (top 22)
 xg:aR K "negated" (top 23)
 xh:aR K "moved" (top 24)
 xj:aR K "turned" (top 27)
 xo:aR K "swapped" (top 28)
 xq:aR K "outcome" (top 29)
 xr:aR K "one_number" (top 38)
 xu:aR K "anything" (top 39)
 xx:aR K "fitting" (top 40)
 xy:aR K "is_one_number" (top 41)
 xA:aR K "met" (top 42)
 xB:aR K "add_span" (top 43)
 xC:aR K "sub_span" (top 44)
 xD:aR K "mul_span" (top 45)
 xE:aR K "div_span" (top 46)
 xF:aR K "mod_span" (top 47)
 xG:aR K "and_span" (top 48)
 xH:aR K "or_span" (top 49)
 xJ:aR K "left_span" (top 50)
 xK:aR K "right_span" (top 51)
 xM:aR K "right_signed_span" (top 52)
 xN:aR K "number_span" (top 54)
 xO:aR K "moved_span" (top 55)
 xP:aR K "data_plus" (top 56)
 xQ:aR K "data_less" (top 57)
 xR:aR K "stack_at" (top 58)
 xS:aR K "sum_span" (top 59)
 xT:aR K "difference_span" (top 60)
 xU:aR K "address_span" (top 61)
 xV:aR K "lower_half" (top 62)
 xW:aR K "is_known" (top 63)
 xX:aR K "arithmetic_span" (top 64)
 xY:aR K "operand" (top 70)
 xZ:aR K "unequal" (top 71)
 x6:aR K "cut" (top 72)
 x8:aR K "is_none" (top 73)
 x9:aR K "way_on" (top 74)
 ya:aR K "is_telling" (top 75)
 yb:aR K "both_ways" (top 76)
 yc:aR K "beginnings" (top 90)
 yd:aR K "begins_at" (top 91)
 ye:aR K "is_exchange" (top 92)
 yf:aR K "is_jump" (top 93)
 yg:aR K "jump_place" (top 94)
 yh:aR K "places_behind" (top 95)
 yi:aR K "wide_number" (top 96)
 yj:aR K "has_operand" (top 97)
 yk:aR K "is_wide" (top 98)
 yl:aR K "is_load" (top 99)
 ym:aR K "is_store_of_imm" (top 100)
 yo:aR K "is_store" (top 101)
 yp:aR K "is_move" (top 102)
 yq:aR K "is_swap" (top 103)
 yr:aR K "is_arithmetic" (top 104)
 yt:aR K "is_branch" (top 105)
 yu:aR K "is_second_half" (top 107)
 yw:aR K "is_formed" (top 108)
 yx:aR K "is_written" (top 109)
 yy:aR K "has_wrong_registers" (top 110)
 yz:aR K "fault_at" (top 111)
 yC:aR K "first_fault" (top 112)
 yD:aR K "is_memory" (top 115)
 yE:aR K "address_of" (top 116)
 yF:aR K "is_within" (top 117)
 yG:aR K "is_aligned" (top 118)
 yH:aR K "is_sure" (top 119)
 yI:aR K "is_whole_piece" (top 120)
 yJ:aR K "pieces_touched" (top 121)
 yK:aR K "loaded" (top 122)
 yL:aR K "stored" (top 123)
 yM:aR K "after_store" (top 124)
 yN:aR K "after_memory" (top 125)
 yO:aR K "first_state" (top 130)
 yP:aR K "is_good" (top 131)
 yQ:aR K "after_helper" (top 132)
 yR:aR K "with_dst" (top 133)
 yS:aR K "ways_of_jump" (top 134)
 yT:aR K "ways_behind" (top 135)
 yU:aR K "joined" (top 136)
 yV:aR K "judged" (top 137)
 yW:aR K "memory_around" (top 147)
 yX:aR K "operand_word" (top 148)
 yY:aR K "step_wide" (top 149)
 yZ:aR K "step_arithmetic" (top 150)
 y9:aR K "step_load" (top 151)
 za:aR K "step_store" (top 152)
 zb:aR K "exchange" (top 153)
 zc:aR K "exchanged" (top 154)
 zd:aR K "is_related" (top 155)
 ze:aR K "is_so" (top 156)
 zf:aR K "step_branch" (top 157)
 zg:aR K "ask_helper" (top 158)
 zh:aR K "finished_run" (top 160)
 zj:aR K "told_of_run" (top 161)
 zk:aR K "are_bytes" (top 169)
 zl:aR K "is_code" (top 170)
 zm:aR K "is_data" (top 171)
 zo:aR K "are_answers" (top 172)
 zp:aR K "answer_of" (top 173)
 zq:aR K "answers" (top 174)
 zu:cR K "DIV" 3
 qW:cR K "NEG" 8
 zw:cR K "MOD" 9
 pF:cR K "MOV" 11
 nH:cR K "SWAP" 13
 qX:cR K "GREATEST_WORD" 18446744073709551615
 cP:cR K "NUMBER" 0
 kP:cR K "DATA" 1
 jM:cR K "STACK" 2
 lU:cR K "STACK_SIZE" 512
 zx:cR K "MOST_DATA_PLACE" 1048576
 nI:cR K "WIDE" 24
 zy:cR K "ALWAYS_BY_OFF" 5
 tM:cR K "ALWAYS_BY_IMM" 6
 pG:cR K "HELPER" 133
 nJ:cR K "END" 149
 qY:cR K "COMPARE" 241
 pH:cR K "LAST_REGISTER" 10
 tN:cR K "FIRST_PIECE" 11
 tO:cR K "SLOTS" 75
 qZ:cR K "MOST_DATA" 256
 tP:cR K "DATA_BASE" 4294967296
 tQ:cR K "STACK_BASE" 8589934080
 tR:cR K "ENDED" 0
 tS:cR K "ASTRAY" 1
 zz:cR K "OUT_OF_STEPS" 2
 zA:cR K "STOPPED_BY_HELPER" 3
 zB:cR K "MOST_INSTRUCTIONS" 128
 zC:cR K "MOST_STEPS" 2000
 zD:cR K "NO_WAY" 3
 d8:W.nsIn K mainGlobals "len"=some none
 kR:W.nsIn K mainGlobals "list"=some none
 jh:W.nsIn K mainGlobals "range"=some none
 nL:W.nsIn K mainGlobals "max"=some none
 nM:W.nsIn K mainGlobals "min"=some none
 rm:W.nsIn K mainGlobals "abs"=some none
 tU:W.nsIn K mainGlobals "all"=some none
 CW:W.nsIn K mainGlobals "zip"=some none
 OM:W.nsIn K mainGlobals "ANY"=some (some (.ref 164))
 ON:W.nsIn K mainGlobals "ZERO"=some (some (.ref 165))
 OO:W.nsIn K mainGlobals "WITH_SIGN"=some (some (.ref 350))
 OP:W.nsIn K mainGlobals "EXCHANGES"=some (some (.ref 403))
 OQ:W.nsIn K mainGlobals "COMPARISONS"=some (some (.ref 404))
 OR:W.nsIn K mainGlobals "FORMS"=some (some (.ref 557))
 OS:W.nsIn K mainGlobals "STEPS"=some (some (.ref 897))
 OT:W.nsIn K mainGlobals "PLAIN"=some (some (.ref 141))
 OU:W.nsIn K mainGlobals "SIGNED"=some (some (.ref 142))
 OV:W.nsIn K mainGlobals "RULES"=some (some (.ref 271))
 OW:W.nsIn K mainGlobals "RELATIONS"=some (some (.ref 349))
 OX:W.nsIn K mainGlobals "OPPOSITES"=some (some (.ref 351))
 OY:W.nsIn K mainGlobals "MIRRORED"=some (some (.ref 352))
 OZ:W.nsIn K mainGlobals "SIZES"=some (some (.ref 402))
 O0:W.nsIn K mainGlobals "add_span"=some (some (.ref 207))
 O1:W.nsIn K mainGlobals "added"=some (some (.ref 42))
 O2:W.nsIn K mainGlobals "and_span"=some (some (.ref 242))
 O3:W.nsIn K mainGlobals "differing"=some (some (.ref 105))
 O4:W.nsIn K mainGlobals "div_span"=some (some (.ref 228))
 O5:W.nsIn K mainGlobals "divided"=some (some (.ref 63))
 O6:W.nsIn K mainGlobals "divided_signed"=some (some (.ref 77))
 O7:W.nsIn K mainGlobals "is_arithmetic"=some (some (.ref 549))
 O8:W.nsIn K mainGlobals "is_branch"=some (some (.ref 556))
 O9:W.nsIn K mainGlobals "is_load"=some (some (.ref 514))
 Pa:W.nsIn K mainGlobals "is_store"=some (some (.ref 528))
 Pb:W.nsIn K mainGlobals "is_store_of_imm"=some (some (.ref 521))
 Pc:W.nsIn K mainGlobals "is_wide"=some (some (.ref 507))
 Pd:W.nsIn K mainGlobals "left_span"=some (some (.ref 256))
 Pe:W.nsIn K mainGlobals "mod_span"=some (some (.ref 235))
 Pf:W.nsIn K mainGlobals "moved"=some (some (.ref 140))
 Pg:W.nsIn K mainGlobals "mul_span"=some (some (.ref 221))
 Ph:W.nsIn K mainGlobals "multiplied"=some (some (.ref 56))
 Pj:W.nsIn K mainGlobals "negated"=some (some (.ref 133))
 Pk:W.nsIn K mainGlobals "or_span"=some (some (.ref 249))
 Pn:W.nsIn K mainGlobals "remainder"=some (some (.ref 70))
 Po:W.nsIn K mainGlobals "remainder_signed"=some (some (.ref 84))
 Pp:W.nsIn K mainGlobals "right_signed_span"=some (some (.ref 270))
 Pq:W.nsIn K mainGlobals "right_span"=some (some (.ref 263))
 Pr:W.nsIn K mainGlobals "shared"=some (some (.ref 98))
 Pu:W.nsIn K mainGlobals "shifted_left"=some (some (.ref 112))
 Pw:W.nsIn K mainGlobals "shifted_right"=some (some (.ref 119))
 Px:W.nsIn K mainGlobals "shifted_right_signed"=some (some (.ref 126))
 Py:W.nsIn K mainGlobals "step_arithmetic"=some (some (.ref 840))
 Pz:W.nsIn K mainGlobals "step_branch"=some (some (.ref 889))
 PB:W.nsIn K mainGlobals "step_load"=some (some (.ref 847))
 PD:W.nsIn K mainGlobals "step_store"=some (some (.ref 854))
 PF:W.nsIn K mainGlobals "step_wide"=some (some (.ref 833))
 PJ:W.nsIn K mainGlobals "sub_span"=some (some (.ref 214))
 PK:W.nsIn K mainGlobals "subtracted"=some (some (.ref 49))
 PL:W.nsIn K mainGlobals "united"=some (some (.ref 91))
 PM:W.nsIn K mainGlobals "Instruction"=some (some (.ref 421))
 PN:W.nsIn K mainGlobals "Program"=some (some (.ref 440))
 PR:W.nsIn K mainGlobals "Judgement"=some (some (.ref 691))
 PU:W.nsIn K mainGlobals "Memory"=some (some (.ref 787))
 PV:W.nsIn K mainGlobals "Run"=some (some (.ref 808))
 PX:W.nsIn K mainGlobals "Calls"=some (some (.ref 962))
 PY:W.nsIn K mainGlobals "Record"=some (some (.ref 1025))
 pI:nR K 350 (lT)
 zE:nR K 403 (wD)
 tV:nR K 404 (wF)
 zF:nR K 557 (CP A0)
 zG:nR K 897 (CQ A0)
 dG:nR K 164 [V.int 0,V.int 0,V.int 18446744073709551615]
 tT:nR K 165 [V.int 0,V.int 0,V.int 0]
 tW:nS w K 141 (CS A0)
 zH:nS w K 142 (CT A0)
 zI:nS w K 271 (CU A0)
 iK:nS w K 349 (iJ)
 zK:nS w K 351 (wG)
 zL:nS w K 352 (wH)
 zM:nS w K 402 (CV)
 uf:cO K 421
 zN:W.findIn K (.ref 421) "code"=some none
 zO:W.findIn K (.ref 421) "group"=some none
 zP:W.findIn K (.ref 421) "op"=some none
 zQ:W.findIn K (.ref 421) "way"=some none
 zR:W.findIn K (.ref 421) "size"=some none
 zS:W.findIn K (.ref 421) "from_src"=some none
 zT:W.findIn K (.ref 421) "dst"=some none
 zU:W.findIn K (.ref 421) "src"=some none
 zV:W.findIn K (.ref 421) "off"=some none
 zW:W.findIn K (.ref 421) "imm"=some none
 zX:cg K "__init__" "Instruction.__init__" (inClass (top 88) 0) 418
 zY:Mk K 421 418
 pO:cO K 440
 ug:W.findIn K (.ref 440) "instructions"=some none
 zZ:W.findIn K (.ref 440) "begins"=some none
 z8:cg K "__init__" "Program.__init__" (inClass (top 89) 0) 437
 z9:Mk K 440 437
 jl:cO K 691
 nP:W.findIn K (.ref 691) "states"=some none
 rq:W.findIn K (.ref 691) "wrong"=some none
 Aa:cg K "__init__" "Judgement.__init__" (inClass (top 129) 0) 688
 Ab:Mk K 691 688
 eG:cO K 787
 pP:W.findIn K (.ref 787) "base"=some none
 mw:W.findIn K (.ref 787) "cells"=some none
 Ac:cg K "__init__" "Memory.__init__" (inClass (top 145) 0) 763
 uh:Mk K 787 763
 Ad:cg K "is_around" "Memory.is_around" (inClass (top 145) 1) 770
 um:Meth K 787 "is_around" 770
 Ae:cg K "number_at" "Memory.number_at" (inClass (top 145) 2) 777
 uo:Meth K 787 "number_at" 777
 Af:cg K "put_number" "Memory.put_number" (inClass (top 145) 3) 784
 rA:Meth K 787 "put_number" 784
 eV:cO K 808
 eH:W.findIn K (.ref 808) "registers"=some none
 pQ:W.findIn K (.ref 808) "data"=some none
 rB:W.findIn K (.ref 808) "stack"=some none
 uq:W.findIn K (.ref 808) "helpers"=some none
 nQ:W.findIn K (.ref 808) "asked"=some none
 ie:W.findIn K (.ref 808) "place"=some none
 jS:W.findIn K (.ref 808) "ending"=some none
 Ag:cg K "__init__" "Run.__init__" (inClass (top 146) 0) 805
 Ah:Mk K 808 805
 dN:cO K 962
 rC:W.findIn K (.ref 962) "numbers"=some none
 mz:W.findIn K (.ref 962) "place"=some none
 Ai:cg K "__init__" "Calls.__init__" (inClass (top 167) 0) 938
 Aj:Mk K 962 938
 Ak:cg K "has_more" "Calls.has_more" (inClass (top 167) 1) 945
 Al:Meth K 962 "has_more" 945
 Am:cg K "take" "Calls.take" (inClass (top 167) 2) 952
 kX:Meth K 962 "take" 952
 An:cg K "take_row" "Calls.take_row" (inClass (top 167) 3) 959
 rD:Meth K 962 "take_row" 959
 cQ:cO K 1025
 mC:W.findIn K (.ref 1025) "program"=some none
 mD:W.findIn K (.ref 1025) "judgement"=some none
 kY:W.findIn K (.ref 1025) "last_run"=some none
 Ao:cg K "__init__" "Record.__init__" (inClass (top 168) 0) 980
 Aq:Mk K 1025 980
 Ar:cg K "load" "Record.load" (inClass (top 168) 1) 987
 As:Meth K 1025 "load" 987
 Au:cg K "judge" "Record.judge" (inClass (top 168) 2) 994
 Av:Meth K 1025 "judge" 994
 Aw:cg K "tell" "Record.tell" (inClass (top 168) 3) 1001
 Ax:Meth K 1025 "tell" 1001
 Ay:cg K "run" "Record.run" (inClass (top 168) 4) 1008
 Az:Meth K 1025 "run" 1008
 AA:cg K "tell_register" "Record.tell_register" (inClass (top 168) 5) 1015
 AB:Meth K 1025 "tell_register" 1015
 AD:cg K "tell_stack" "Record.tell_stack" (inClass (top 168) 6) 1022
 AE:Meth K 1025 "tell_stack" 1022
section
open PySem.W
def q1:Program:=PySem.W.view PySem.Challenge.pw_judgedprograms_s01_answers [174]
def loose1:List Str:=[Str.ofString "DIV",Str.ofString "NEG",Str.ofString "MOD",Str.ofString "MOV",Str.ofString "SWAP",Str.ofString "GREATEST_WORD",Str.ofString "ones",Str.ofString "signed",Str.ofString "width",Str.ofString "added",Str.ofString "subtracted",Str.ofString "multiplied",Str.ofString "divided",Str.ofString "remainder",Str.ofString "divided_signed",Str.ofString "remainder_signed",Str.ofString "united",Str.ofString "shared",Str.ofString "differing",Str.ofString "shifted_left",Str.ofString "shifted_right",Str.ofString "shifted_right_signed",Str.ofString "negated",Str.ofString "moved",Str.ofString "PLAIN",Str.ofString "SIGNED",Str.ofString "turned",Str.ofString "swapped",Str.ofString "outcome",Str.ofString "NUMBER",Str.ofString "DATA",Str.ofString "STACK",Str.ofString "ANY",Str.ofString "ZERO",Str.ofString "STACK_SIZE",Str.ofString "MOST_DATA_PLACE",Str.ofString "one_number",Str.ofString "anything",Str.ofString "fitting",Str.ofString "is_one_number",Str.ofString "met",Str.ofString "add_span",Str.ofString "sub_span",Str.ofString "mul_span",Str.ofString "div_span",Str.ofString "mod_span",Str.ofString "and_span",Str.ofString "or_span",Str.ofString "left_span",Str.ofString "right_span",Str.ofString "right_signed_span",Str.ofString "RULES",Str.ofString "number_span",Str.ofString "moved_span",Str.ofString "data_plus",Str.ofString "data_less",Str.ofString "stack_at",Str.ofString "sum_span",Str.ofString "difference_span",Str.ofString "address_span",Str.ofString "lower_half",Str.ofString "is_known",Str.ofString "arithmetic_span",Str.ofString "RELATIONS",Str.ofString "WITH_SIGN",Str.ofString "OPPOSITES",Str.ofString "MIRRORED",Str.ofString "operand",Str.ofString "unequal",Str.ofString "cut",Str.ofString "is_none",Str.ofString "way_on",Str.ofString "is_telling",Str.ofString "both_ways",Str.ofString "WIDE",Str.ofString "ALWAYS_BY_OFF",Str.ofString "ALWAYS_BY_IMM",Str.ofString "HELPER",Str.ofString "END",Str.ofString "SIZES",Str.ofString "EXCHANGES",Str.ofString "COMPARE",Str.ofString "COMPARISONS",Str.ofString "LAST_REGISTER",Str.ofString "Instruction",Str.ofString "Program",Str.ofString "beginnings",Str.ofString "begins_at",Str.ofString "is_exchange",Str.ofString "is_jump",Str.ofString "jump_place",Str.ofString "places_behind",Str.ofString "wide_number",Str.ofString "has_operand",Str.ofString "is_wide",Str.ofString "is_load",Str.ofString "is_store_of_imm",Str.ofString "is_store",Str.ofString "is_move",Str.ofString "is_swap",Str.ofString "is_arithmetic",Str.ofString "is_branch",Str.ofString "FORMS",Str.ofString "is_second_half",Str.ofString "is_formed",Str.ofString "is_written",Str.ofString "has_wrong_registers",Str.ofString "fault_at",Str.ofString "first_fault",Str.ofString "FIRST_PIECE",Str.ofString "is_memory",Str.ofString "address_of",Str.ofString "is_within",Str.ofString "is_aligned",Str.ofString "is_sure",Str.ofString "is_whole_piece",Str.ofString "pieces_touched",Str.ofString "loaded",Str.ofString "stored",Str.ofString "after_store",Str.ofString "after_memory",Str.ofString "SLOTS",Str.ofString "MOST_DATA",Str.ofString "Judgement",Str.ofString "first_state",Str.ofString "is_good",Str.ofString "after_helper",Str.ofString "with_dst",Str.ofString "ways_of_jump",Str.ofString "ways_behind",Str.ofString "joined",Str.ofString "judged",Str.ofString "DATA_BASE",Str.ofString "STACK_BASE",Str.ofString "ENDED",Str.ofString "ASTRAY",Str.ofString "OUT_OF_STEPS",Str.ofString "STOPPED_BY_HELPER",Str.ofString "Memory",Str.ofString "Run",Str.ofString "memory_around",Str.ofString "operand_word",Str.ofString "step_wide",Str.ofString "step_arithmetic",Str.ofString "step_load",Str.ofString "step_store",Str.ofString "exchange",Str.ofString "exchanged",Str.ofString "is_related",Str.ofString "is_so",Str.ofString "step_branch",Str.ofString "ask_helper",Str.ofString "STEPS",Str.ofString "finished_run",Str.ofString "told_of_run",Str.ofString "MOST_INSTRUCTIONS",Str.ofString "MOST_STEPS",Str.ofString "NO_WAY",Str.ofString "CallNotKnown",Str.ofString "Calls",Str.ofString "Record",Str.ofString "are_bytes",Str.ofString "is_code",Str.ofString "is_data",Str.ofString "are_answers",Str.ofString "answer_of"]
local macro_rules
  | `(tactic| first | refine $f:ident $args* | fail $s:str) => do
    unless f.getId.eraseMacroScopes == `PySem.W.holds_os do Lean.Macro.throwUnsupported
    let args2 ← args.mapM fun a => do
      if a.raw.getKind == ``Lean.Parser.Term.namedArgument then
        let n := a.raw[1].getId.eraseMacroScopes
        if n == `q then return (⟨(← `(Lean.Parser.Term.namedArgument| (q := My.q1)))⟩ : Lean.TSyntax _)
        else if n == `loose then return (⟨(← `(Lean.Parser.Term.namedArgument| (loose := My.loose1)))⟩ : Lean.TSyntax _)
        else if n == `Xt then return (⟨(← `(Lean.Parser.Term.namedArgument| (Xt := fun s => xlAt My.q1 [] s && recOk [] s)))⟩ : Lean.TSyntax _)
        else if n == `XP then return (⟨(← `(Lean.Parser.Term.namedArgument| (XP := XL My.q1 [])))⟩ : Lean.TSyntax _)
        else return a
      else if a.raw.getKind == ``Lean.Parser.Term.syntheticHole && a.raw[1].getId == `hc then
        return (⟨(← `(($(Lean.mkIdent `H) (by exact rfl) (by exact rfl) (by exact fun w h Y => PySem.W.kIn_of Y) ?hc)))⟩ : Lean.TSyntax _)
      else return a
    `(tactic| refine $f:ident $args2*)
theorem head (H : ∀ {q : Program} {loose : List Str} {XP : (Str → Option Value) → Heap → Prop} {YP : World → Heap → Prop} {d : DefRec} {K : Params → PySem.W.Frag} (hdf : d.params.defaults = []) (hn : d.name = "answers") (hY : ∀ (w : World) (h : Heap), YP w h → (K w.params).In h) (F : ∀ w : World, ur w (K w.params)), PySem.W.WalkOS q loose XP YP PySem.Challenge.rw_judgedprograms_s01_answers d [] (fun f vs => PySem.call f vs)) : PySem.Challenge.rw_judgedprograms_s01_answers.Holds := by
  w_on; k_headS; (case hw => exact ⟨[.list []], by decide +kernel, by decide +kernel⟩)
  k_fillS
  intro w
  constructor
  (case wI | wJ | wK | wL | wM | wN | wO | wQ | wR | wU | wV | wW | wX | wY | wZ | w9 | xg | xh | xj | xo | xq | xr | xu | xx | xy | xA | xB | xC | xD | xE | xF | xG | xH | xJ | xK | xM | xN | xO | xP | xQ | xR | xS | xT | xU | xV | xW | xX | xY | xZ | x6 | x8 | x9 | ya | yb | yc | yd | ye | yf | yg | yh | yi | yj | yk | yl | ym | yo | yp | yq | yr | yt | yu | yw | yx | yy | yz | yC | yD | yE | yF | yG | yH | yI | yJ | yK | yL | yM | yN | yO | yP | yQ | yR | yS | yT | yU | yV | yW | yX | yY | yZ | y9 | za | zb | zc | zd | ze | zf | zg | zh | zj | zk | zl | zm | zo | zp | zq => (refine' Z2 ?a ?l ?c ?k; (case a => k_is); (case l => k_is); (case c => k_is); (case k => k_is)))
  (case zu | qW | zw | pF | nH | qX | cP | kP | jM | lU | zx | nI | zy | tM | pG | nJ | qY | pH | tN | tO | qZ | tP | tQ | tR | tS | zz | zA | zB | zC | zD => (refine' Z3 ?a; (case a => k_is)))
  (case pI => (refine' BO ?l ?v; (case l => k_is); (case v => exact (.cons ⟨_, rfl⟩ (.cons ⟨_, rfl⟩ (.cons ⟨_, rfl⟩ (.cons ⟨_, rfl⟩ (.nil))))))))
  (case zE => (refine' BO ?l ?v; (case l => k_is); (case v => exact (.cons ⟨_, rfl⟩ (.cons ⟨_, rfl⟩ (.cons ⟨_, rfl⟩ (.cons ⟨_, rfl⟩ (.cons ⟨_, rfl⟩ (.cons ⟨_, rfl⟩ (.cons ⟨_, rfl⟩ (.cons ⟨_, rfl⟩ (.cons ⟨_, rfl⟩ (.cons ⟨_, rfl⟩ (.nil))))))))))))))
  (case tV => (refine' BO ?l ?v; (case l => k_is); (case v => exact (.cons ⟨_, rfl⟩ (.cons ⟨_, rfl⟩ (.cons ⟨_, rfl⟩ (.cons ⟨_, rfl⟩ (.cons ⟨_, rfl⟩ (.cons ⟨_, rfl⟩ (.cons ⟨_, rfl⟩ (.cons ⟨_, rfl⟩ (.cons ⟨_, rfl⟩ (.cons ⟨_, rfl⟩ (.cons ⟨_, rfl⟩ (.nil)))))))))))))))
  (case zF | zG => (refine' BO ?l ?v; (case l => k_is); (case v => exact (.cons rfl (.cons rfl (.cons rfl (.cons rfl (.cons rfl (.cons rfl (.cons rfl (.cons rfl (.nil))))))))))))
  (case dG | tT => (refine' BO ?l ?v; (case l => k_is); (case v => exact (.cons ⟨_, rfl⟩ (.cons ⟨_, rfl⟩ (.cons ⟨_, rfl⟩ (.nil)))))))
  (case tW => (refine' vt ?l ?v; (case l => k_is); (case v => exact ⟨L2.bU _ _, rfl, rfl, ⟨L2.bU _ _, rfl, rfl, ⟨L2.bU _ _, rfl, rfl, ⟨L2.bU _ _, rfl, rfl, ⟨L2.bU _ _, rfl, rfl, ⟨L2.bU _ _, rfl, rfl, ⟨L2.bU _ _, rfl, rfl, ⟨L2.bU _ _, rfl, rfl, ⟨L2.bU _ _, rfl, rfl, ⟨L2.bU _ _, rfl, rfl, ⟨L2.bU _ _, rfl, rfl, ⟨L2.bU _ _, rfl, rfl, ⟨L2.bU _ _, rfl, rfl, trivial⟩⟩⟩⟩⟩⟩⟩⟩⟩⟩⟩⟩⟩)))
  (case zH => (refine' vt ?l ?v; (case l => k_is); (case v => exact ⟨L2.bU _ _, rfl, rfl, ⟨L2.bU _ _, rfl, rfl, trivial⟩⟩)))
  (case zI => (refine' vt ?l ?v; (case l => k_is); (case v => exact ⟨L2.bU _ _, rfl, rfl, ⟨L2.bU _ _, rfl, rfl, ⟨L2.bU _ _, rfl, rfl, ⟨L2.bU _ _, rfl, rfl, ⟨L2.bU _ _, rfl, rfl, ⟨L2.bU _ _, rfl, rfl, ⟨L2.bU _ _, rfl, rfl, ⟨L2.bU _ _, rfl, rfl, ⟨L2.bU _ _, rfl, rfl, ⟨L2.bU _ _, rfl, rfl, ⟨L2.bU _ _, rfl, rfl, trivial⟩⟩⟩⟩⟩⟩⟩⟩⟩⟩⟩)))
  (case iK => (refine' vt ?l ?v; (case l => k_is); (case v => exact ⟨L2.bU _ _, rfl, ⟨_, rfl⟩, ⟨L2.bU _ _, rfl, ⟨_, rfl⟩, ⟨L2.bU _ _, rfl, ⟨_, rfl⟩, ⟨L2.bU _ _, rfl, ⟨_, rfl⟩, ⟨L2.bU _ _, rfl, ⟨_, rfl⟩, ⟨L2.bU _ _, rfl, ⟨_, rfl⟩, ⟨L2.bU _ _, rfl, ⟨_, rfl⟩, ⟨L2.bU _ _, rfl, ⟨_, rfl⟩, ⟨L2.bU _ _, rfl, ⟨_, rfl⟩, ⟨L2.bU _ _, rfl, ⟨_, rfl⟩, trivial⟩⟩⟩⟩⟩⟩⟩⟩⟩⟩)))
  (case zK | zL => (refine' vt ?l ?v; (case l => k_is); (case v => exact ⟨L2.oM _ _, rfl, ⟨_, rfl⟩, ⟨L2.oM _ _, rfl, ⟨_, rfl⟩, ⟨L2.oM _ _, rfl, ⟨_, rfl⟩, ⟨L2.oM _ _, rfl, ⟨_, rfl⟩, ⟨L2.oM _ _, rfl, ⟨_, rfl⟩, ⟨L2.oM _ _, rfl, ⟨_, rfl⟩, trivial⟩⟩⟩⟩⟩⟩)))
  (case zM => (refine' vt ?l ?v; (case l => k_is); (case v => exact ⟨L2.bU _ _, rfl, ⟨_, rfl⟩, ⟨L2.bU _ _, rfl, ⟨_, rfl⟩, ⟨L2.bU _ _, rfl, ⟨_, rfl⟩, ⟨L2.bU _ _, rfl, ⟨_, rfl⟩, trivial⟩⟩⟩⟩)))
  (case uf | pO | jl | eG | eV | dN | cQ => (refine' Z4 ?a ?b ?c ?d; (case a => k_is); (case b => k_is); (case c => k_is); (case d => k_is)))
  (case zX | z8 | Aa | Ac | Ad | Ae | Af | Ag | Ai | Ak | Am | An | Ao | Ar | Au | Aw | Ay | AA | AD => (refine' Z5 ?l ?c ?k; (case l => k_is); (case c => k_is); (case k => k_is)))
  (case zY | z9 | Ab | uh | Ah | Aj | Aq => (refine' Z6 ?a ?b ?c ?d; (case a => k_is); (case b => k_is); (case c => k_is); (case d => k_is)))
  (case um | uo | rA | Al | kX | rD | As | Av | Ax | Az | AB | AE => (refine' Z7 ?a ?b ?c; (case a => k_is); (case b => k_is); (case c => k_is)))
  all_goals k_is
end
end My
namespace My
open PySem PySem.Spec PyProof.Rows L2 
open PySem.W (Frag)
open Path (Insn bitsOf State_ numbers inBits Range_ beginsFrom askTold littleOf helpersIn Bytes)
def bJ (bits:Int):Int:=(((1:Int)*2^(bits).toNat)-(1:Int))
def bB (number:Int) (bits:Int):Int:=(if(((Builtin.bitAnd number (bJ bits))/2^((bits-(1:Int))).toNat) != 0)=true then((Builtin.bitAnd number (bJ bits))-((1:Int)*2^(bits).toNat))else(Builtin.bitAnd number (bJ bits)))
def cM (ins:Insn):Int:=(if(c7 (V.int ((ins.cls:Nat):Int)) [V.int (5:Int),V.int (7:Int)])=true then(64:Int)else(32:Int))
def tX (a:Int) (b:Int) (bits:Int):Int:=(a+b)
def ud (a:Int) (b:Int) (bits:Int):Int:=(a-b)
def t6 (a:Int) (b:Int) (bits:Int):Int:=(a*b)
def lW (a:Int) (b:Int) (bits:Int):Int:=(if(b != 0)=true then(a/b)else(0:Int))
def lZ (a:Int) (b:Int) (bits:Int):Int:=(if(b != 0)=true then(a%b)else a)
def ue (a:Int) (b:Int) (bits:Int):Int:=(Builtin.bitOr a b)
def t8 (a:Int) (b:Int) (bits:Int):Int:=(Builtin.bitAnd a b)
def tY (a:Int) (b:Int) (bits:Int):Int:=(Builtin.bitXor a b)
def t9 (a:Int) (b:Int) (bits:Int):Int:=(a*2^((b%bits)).toNat)
def ua (a:Int) (b:Int) (bits:Int):Int:=(a/2^((b%bits)).toNat)
def uc (a:Int) (b:Int) (bits:Int):Int:=((bB a bits)/2^((b%bits)).toNat)
def t7 (a:Int) (b:Int) (bits:Int):Int:=(-a)
def tZ (a:Int) (b:Int) (bits:Int):Int:=b
def kT (a:Int) (b:Int) (bits:Int):Int:=(if(decide (b=(0:Int)))=true then(0:Int)else(if(decide (V.bl (decide ((bB a bits)<(0:Int)))=V.bl (decide ((bB b bits)<(0:Int)))))=true then((if(bB a bits)<0 then -(bB a bits)else(bB a bits))/(if(bB b bits)<0 then -(bB b bits)else(bB b bits)))else(-((if(bB a bits)<0 then -(bB a bits)else(bB a bits))/(if(bB b bits)<0 then -(bB b bits)else(bB b bits))))))
def kW (a:Int) (b:Int) (bits:Int):Int:=(if(decide (b=(0:Int)))=true then a else(if(decide ((bB a bits)<(0:Int)))=true then(-((if(bB a bits)<0 then -(bB a bits)else(bB a bits))%(if(bB b bits)<0 then -(bB b bits)else(bB b bits))))else((if(bB a bits)<0 then -(bB a bits)else(bB a bits))%(if(bB b bits)<0 then -(bB b bits)else(bB b bits)))))
def pS (number:Int):S3:=(((0:Int),number,number):S3)
def dS (bits:Int):S3:=(((0:Int),(0:Int),(bJ bits)):S3)
def mE (lo:Int) (hi:Int) (bits:Int):S3:=(if(decide (hi≤(bJ bits)))=true then(((0:Int),lo,hi):S3)else(dS bits))
def gj (span:S3):Bool:=(if(decide (span.1=(0:Int)))=true then(decide (span.2.1=span.2.2))else false)
def gU (one:S3) (other:S3):S3:=(if(PyData.eqv (d3 one) (d3 other))=true then one else(if(decide (one.1=other.1))=true then(if(!decide (one.1=(2:Int)))=true then((one.1,(if other.2.1<one.2.1 then other.2.1 else one.2.1),(if other.2.2>one.2.2 then other.2.2 else one.2.2)):S3)else((0,0,18446744073709551615):S3))else((0,0,18446744073709551615):S3)))
def pJ (a:Int) (b:Int) (c:Int) (d:Int) (bits:Int):S3:=(mE (a+c) (b+d) bits)
def l9 (a:Int) (b:Int) (c:Int) (d:Int) (bits:Int):S3:=(if(decide (d≤a))=true then(((0:Int),(a-d),(b-c)):S3)else(dS bits))
def pL (a:Int) (b:Int) (c:Int) (d:Int) (bits:Int):S3:=(mE (a*c) (b*d) bits)
def lV (a:Int) (b:Int) (c:Int) (d:Int) (bits:Int):S3:=(if(decide ((0:Int)<c))=true then(((0:Int),(a/d),(b/c)):S3)else(((0:Int),(0:Int),b):S3))
def kU (a:Int) (b:Int) (c:Int) (d:Int) (bits:Int):S3:=(if(decide (c=(0:Int)))=true then(((0:Int),(0:Int),b):S3)else(if(decide (b<c))=true then(((0:Int),a,b):S3)else(((0:Int),(0:Int),(if(d-(1:Int))<b then(d-(1:Int))else b)):S3)))
def pK (a:Int) (b:Int) (c:Int) (d:Int) (bits:Int):S3:=(((0:Int),(0:Int),(if d<b then d else b)):S3)
def jP (a:Int) (b:Int) (c:Int) (d:Int) (bits:Int):S3:=(dS ((Builtin.Int.intBits (if d>b then d else b):Nat):Int))
def lY (a:Int) (b:Int) (c:Int) (d:Int) (bits:Int):S3:=(if(!decide (c=d))=true then(dS bits)else(mE (a*2^((c%bits)).toNat) (b*2^((c%bits)).toNat) bits))
def jQ (a:Int) (b:Int) (c:Int) (d:Int) (bits:Int):S3:=(if(!decide (c=d))=true then(dS bits)else(((0:Int),(a/2^((c%bits)).toNat),(b/2^((c%bits)).toNat)):S3))
def l7 (a:Int) (b:Int) (c:Int) (d:Int) (bits:Int):S3:=(if(decide (b≤(bJ (bits-(1:Int)))))=true then(jQ a b c d bits)else(dS bits))
def pV (x:Int):Str:=match c8 iJ (Sum.inl x)with
 |some (.str z)=>z
 |_=>""
def AJ (x:Str):Str:=match c8 wG (Sum.inr x)with
 |some (.str z)=>z
 |_=>""
def uy (x:Str):Str:=match c8 wH (Sum.inr x)with
 |some (.str z)=>z
 |_=>""
def mF (ins:Insn) (x:S3):S3:=(if(decide (ins.off=(0:Int)))=true then x else(if(if(decide (x.1=(0:Int)))=true then(decide (x.2.2≤(bJ (ins.off-(1:Int)))))else false)=true then x else(dS (cM ins))))
def mG (address:S3) (number:S3):S3:=(if(decide ((address.2.2+number.2.2)≤(1048576:Int)))=true then(((1:Int),(address.2.1+number.2.1),(address.2.2+number.2.2)):S3)else((0,0,18446744073709551615):S3))
def pX (address:S3) (number:S3):S3:=(if(decide (address.2.1<number.2.2))=true then((0,0,18446744073709551615):S3)else(((1:Int),(address.2.1-number.2.2),(address.2.2-number.2.1)):S3))
def gV (place:Int):S3:=(if(decide ((0:Int)≤place))=true then(if(decide (place≤(512:Int)))=true then(((2:Int),place,place):S3)else((0,0,18446744073709551615):S3))else((0,0,18446744073709551615):S3))
def fh (dst:S3) (x:S3):S3:=(if(decide (dst.1=(1:Int)))=true then(if(decide (x.1=(0:Int)))=true then(mG dst x)else(if(decide (dst.1=(0:Int)))=true then(if(decide (x.1=(1:Int)))=true then(mG x dst)else(if(decide (dst.1=(2:Int)))=true then(if(gj x)=true then(gV (dst.2.1+(bB x.2.1 (64:Int))))else((0,0,18446744073709551615):S3))else((0,0,18446744073709551615):S3)))else(if(decide (dst.1=(2:Int)))=true then(if(gj x)=true then(gV (dst.2.1+(bB x.2.1 (64:Int))))else((0,0,18446744073709551615):S3))else((0,0,18446744073709551615):S3))))else(if(decide (dst.1=(0:Int)))=true then(if(decide (x.1=(1:Int)))=true then(mG x dst)else(if(decide (dst.1=(2:Int)))=true then(if(gj x)=true then(gV (dst.2.1+(bB x.2.1 (64:Int))))else((0,0,18446744073709551615):S3))else((0,0,18446744073709551615):S3)))else(if(decide (dst.1=(2:Int)))=true then(if(gj x)=true then(gV (dst.2.1+(bB x.2.1 (64:Int))))else((0,0,18446744073709551615):S3))else((0,0,18446744073709551615):S3))))
def jm (dst:S3) (x:S3):S3:=(if(decide (dst.1=(1:Int)))=true then(if(decide (x.1=(0:Int)))=true then(pX dst x)else(if(decide (dst.1=(2:Int)))=true then(if(gj x)=true then(gV (dst.2.1-(bB x.2.1 (64:Int))))else((0,0,18446744073709551615):S3))else((0,0,18446744073709551615):S3)))else(if(decide (dst.1=(2:Int)))=true then(if(gj x)=true then(gV (dst.2.1-(bB x.2.1 (64:Int))))else((0,0,18446744073709551615):S3))else((0,0,18446744073709551615):S3)))
def iN (ins:Insn) (dst:S3) (x:S3):S3:=(if(decide (((ins.op:Nat):Int)=(0:Int)))=true then(fh dst x)else(if(decide (((ins.op:Nat):Int)=(1:Int)))=true then(jm dst x)else((0,0,18446744073709551615):S3)))
def jn (span:S3):S3:=(if(if(decide (span.1=(0:Int)))=true then(decide (span.2.2≤(bJ (32:Int))))else false)=true then span else(dS (32:Int)))
def jU (ins:Insn) (dst:S3) (x:S3):Bool:=(if(decide (((ins.op:Nat):Int)=(11:Int)))=true then(gj x)else(if(decide (((ins.op:Nat):Int)=(8:Int)))=true then(gj dst)else(if(decide (((ins.op:Nat):Int)=(13:Int)))=true then(gj dst)else(if(gj dst)=true then(gj x)else false))))
def jo (ins:Insn) (state:List S3):S3:=(if ins.reg=true then(state.getD (((ins.src:Nat):Int)).toNat (0,0,0))else(pS (Builtin.bitAnd ins.imm (bJ (cM ins)))))
def mJ (span:S3) (other:S3):S3:=(if(!decide (other.2.1=other.2.2))=true then span else(if(decide (span.2.1=other.2.1))=true then(if(decide (span.2.2=other.2.1))=true then(((0:Int),(span.2.1+(1:Int)),(span.2.2-(1:Int))):S3)else(((0:Int),(span.2.1+(1:Int)),span.2.2):S3))else(if(decide (span.2.2=other.2.1))=true then(((0:Int),span.2.1,(span.2.2-(1:Int))):S3)else(((0:Int),span.2.1,span.2.2):S3))))
def eK (span:S3) (eW:Str) (other:S3):S3:=(if(decide (V.str eW=V.str ("==":Str)))=true then(((0:Int),(if other.2.1>span.2.1 then other.2.1 else span.2.1),(if other.2.2<span.2.2 then other.2.2 else span.2.2)):S3)else(if(decide (V.str eW=V.str ("!=":Str)))=true then(mJ span other)else(if(decide (V.str eW=V.str (">":Str)))=true then(((0:Int),(if(other.2.1+(1:Int))>span.2.1 then(other.2.1+(1:Int))else span.2.1),span.2.2):S3)else(if(decide (V.str eW=V.str (">=":Str)))=true then(((0:Int),(if other.2.1>span.2.1 then other.2.1 else span.2.1),span.2.2):S3)else(if(decide (V.str eW=V.str ("<":Str)))=true then(((0:Int),span.2.1,(if(other.2.2-(1:Int))<span.2.2 then(other.2.2-(1:Int))else span.2.2)):S3)else(((0:Int),span.2.1,(if other.2.2<span.2.2 then other.2.2 else span.2.2)):S3))))))
def uA (span:S3):Bool:=(decide (span.2.2<span.2.1))
def ig (ins:Insn) (dst:S3) (x:S3):Bool:=(if(!(c8 iJ (Sum.inl ((ins.op:Nat):Int))).isSome)=true then false else(if(!decide (dst.1=(0:Int)))=true then false else(if(!decide (x.1=(0:Int)))=true then false else(decide ((if x.2.2>dst.2.2 then x.2.2 else dst.2.2)≤(bJ (if(c7 (V.int ((ins.op:Nat):Int)) lT)=true then((cM ins)-(1:Int))else(cM ins))))))))
def dH (ins:Insn):Bool:=(if(decide (((ins.cls:Nat):Int)=(3:Int)))=true then(decide (((ins.mode:Nat):Int)=(192:Int)))else false)
def jq (ins:Insn):Bool:=(if(c7 (V.int ((ins.cls:Nat):Int)) [V.int (5:Int),V.int (6:Int)])=true then(!c7 (V.int ((ins.code:Nat):Int)) [V.int (133:Int),V.int (149:Int)])else false)
def fj (ins:Insn) (place:Int):Int:=((place+(1:Int))+(if(decide (((ins.code:Nat):Int)=(6:Int)))=true then ins.imm else ins.off))
def nW (program:List Insn) (place:Int):Int:=(Builtin.bitOr ((Builtin.bitAnd (program.getD ((place+(1:Int))).toNat aW).imm (4294967295:Int))*2^((32:Int)).toNat) (Builtin.bitAnd (program.getD (place).toNat aW).imm (4294967295:Int)))
def jW (ins:Insn):Bool:=(if ins.reg=true then(decide (ins.imm=(0:Int)))else(decide (((ins.src:Nat):Int)=(0:Int))))
def ji (ins:Insn):Bool:=(if(decide (((ins.code:Nat):Int)=(24:Int)))=true then(if(decide (((ins.src:Nat):Int)=(0:Int)))=true then(decide (ins.off=(0:Int)))else false)else false)
def jN (ins:Insn):Bool:=(if(decide (ins.imm=(0:Int)))=true then(if(decide (((ins.mode:Nat):Int)=(96:Int)))=true then true else(if(decide (((ins.mode:Nat):Int)=(128:Int)))=true then(decide (((ins.size:Nat):Int)<(8:Int)))else false))else false)
def lX (ins:Insn):Bool:=(if(decide (((ins.mode:Nat):Int)=(96:Int)))=true then(decide (((ins.src:Nat):Int)=(0:Int)))else false)
def jO (ins:Insn):Bool:=(if(dH ins)=true then(if(c7 (V.int ((ins.size:Nat):Int)) [V.int (4:Int),V.int (8:Int)])=true then(c7 (V.int ins.imm) wD)else false)else(if(decide (((ins.mode:Nat):Int)=(96:Int)))=true then(decide (ins.imm=(0:Int)))else false))
def nX (ins:Insn):Bool:=(if(c7 (V.int ((ins.code:Nat):Int)) [V.int (215:Int),V.int (212:Int),V.int (220:Int)])=true then(if(decide (((ins.src:Nat):Int)=(0:Int)))=true then(if(decide (ins.off=(0:Int)))=true then(c7 (V.int ins.imm) [V.int (16:Int),V.int (32:Int),V.int (64:Int)])else false)else false)else false)
def dM (ins:Insn):Bool:=(if(decide (((ins.code:Nat):Int)=(5:Int)))=true then(if(if(decide (((ins.dst:Nat):Int)=(0:Int)))=true then(decide (((ins.src:Nat):Int)=(0:Int)))else false)=true then(decide (ins.imm=(0:Int)))else false)else(if(decide (((ins.code:Nat):Int)=(6:Int)))=true then(if(if(decide (((ins.dst:Nat):Int)=(0:Int)))=true then(decide (((ins.src:Nat):Int)=(0:Int)))else false)=true then(decide (ins.off=(0:Int)))else false)else(if(decide (((ins.code:Nat):Int)=(133:Int)))=true then(if(if(decide (((ins.dst:Nat):Int)=(0:Int)))=true then(decide (((ins.src:Nat):Int)=(0:Int)))else false)=true then(decide (ins.off=(0:Int)))else false)else(if(decide (((ins.code:Nat):Int)=(149:Int)))=true then(if(if(decide (((ins.dst:Nat):Int)=(0:Int)))=true then(decide (((ins.src:Nat):Int)=(0:Int)))else false)=true then(if(decide (ins.off=(0:Int)))=true then(decide (ins.imm=(0:Int)))else false)else false)else(if(c7 (V.int ((ins.op:Nat):Int)) wF)=true then(jW ins)else false)))))
def mK (ins:Insn):Bool:=(if(decide (((ins.code:Nat):Int)=(0:Int)))=true then(if(decide (((ins.dst:Nat):Int)=(0:Int)))=true then(if(decide (((ins.src:Nat):Int)=(0:Int)))=true then(decide (ins.off=(0:Int)))else false)else false)else false)
def k6 (ins:Insn) (number:Int):Bool:=(if(c7 (V.int ((ins.cls:Nat):Int)) [V.int (0:Int),V.int (1:Int),V.int (4:Int),V.int (7:Int)])=true then(decide (number=((ins.dst:Nat):Int)))else(if(dH ins)=true then(if(decide (ins.imm=(241:Int)))=true then(decide (number=(0:Int)))else(if(decide ((Builtin.bitAnd ins.imm (1:Int))=(1:Int)))=true then(decide (number=((ins.src:Nat):Int)))else false))else false))
def nY (ins:Insn):Bool:=(if(decide ((10:Int)<((ins.dst:Nat):Int)))=true then true else(if(decide ((10:Int)<((ins.src:Nat):Int)))=true then true else(k6 ins (10:Int))))
def fk (ins:Insn):Bool:=(c7 (V.int ((ins.cls:Nat):Int)) [V.int (1:Int),V.int (2:Int),V.int (3:Int)])
def dI (ins:Insn) (state:List S3):S3:=(if(decide (((ins.cls:Nat):Int)=(1:Int)))=true then(state.getD (((ins.src:Nat):Int)).toNat (0,0,0))else(state.getD (((ins.dst:Nat):Int)).toNat (0,0,0)))
def jr (ins:Insn) (address:S3) (least:Int):Bool:=(if(decide (address.1=(1:Int)))=true then(if(decide ((0:Int)≤(address.2.1+ins.off)))=true then(decide (((address.2.2+ins.off)+((ins.size:Nat):Int))≤least))else false)else(if(decide (address.1=(2:Int)))=true then(if(decide ((0:Int)≤(address.2.1+ins.off)))=true then(decide (((address.2.2+ins.off)+((ins.size:Nat):Int))≤(512:Int)))else false)else false))
def mL (ins:Insn) (address:S3):Bool:=(if(decide (address.2.1=address.2.2))=true then(decide (((address.2.1+ins.off)%((ins.size:Nat):Int))=(0:Int)))else false)
def mO (ins:Insn) (state:List S3) (least:Int):Bool:=(if(jr ins (dI ins state) least)=true then(if(mL ins (dI ins state))=true then true else(!(dH ins)))else false)
def ir (ins:Insn) (address:S3):Bool:=(if(decide (address.1=(2:Int)))=true then(if(decide (((ins.size:Nat):Int)=(8:Int)))=true then(decide (((address.2.1+ins.off)%(8:Int))=(0:Int)))else false)else false)
def jt (ins:Insn) (state:List S3):S3:=(if(dH ins)=true then((0,0,18446744073709551615):S3)else(if(ir ins (dI ins state))=true then(if(decide (((ins.cls:Nat):Int)=(3:Int)))=true then(state.getD (((ins.src:Nat):Int)).toNat (0,0,0))else(pS (Builtin.bitAnd ins.imm (bJ (64:Int)))))else((0,0,18446744073709551615):S3)))
def iu (ins:Insn) (place:Int) (state:List S3) (least:Int):Bool:=(if(jq ins)=true then(decide (place<(fj ins place)))else(if(fk ins)=true then(mO ins state least)else true))
def gx (way:Int) (found:Int) (word:Int):Int:=(if(decide (way=(0:Int)))=true then(found+word)else(if(decide (way=(64:Int)))=true then(Builtin.bitOr found word)else(if(decide (way=(80:Int)))=true then(Builtin.bitAnd found word)else(if(decide (way=(160:Int)))=true then(Builtin.bitXor found word)else word))))
def jX (eW:Str) (a:Int) (b:Int):Bool:=(if(decide (V.str eW=V.str ("==":Str)))=true then(decide (a=b))else(if(decide (V.str eW=V.str ("!=":Str)))=true then(!decide (a=b))else(if(decide (V.str eW=V.str (">":Str)))=true then(decide (b<a))else(if(decide (V.str eW=V.str (">=":Str)))=true then(decide (b≤a))else(if(decide (V.str eW=V.str ("<":Str)))=true then(decide (a<b))else(decide (a≤b)))))))
def gW (ins:Insn) (dst:Int) (x:Int):Bool:=(if((c8 iJ (Sum.inl ((ins.op:Nat):Int))).isSome)=true then(jX (pV ((ins.op:Nat):Int)) (if(c7 (V.int ((ins.op:Nat):Int)) lT)=true then(bB dst (cM ins))else(Builtin.bitAnd dst (bJ (cM ins)))) (if(c7 (V.int ((ins.op:Nat):Int)) lT)=true then(bB x (cM ins))else(Builtin.bitAnd x (bJ (cM ins)))))else(!decide ((Builtin.bitAnd (if(c7 (V.int ((ins.op:Nat):Int)) lT)=true then(bB dst (cM ins))else(Builtin.bitAnd dst (bJ (cM ins)))) (if(c7 (V.int ((ins.op:Nat):Int)) lT)=true then(bB x (cM ins))else(Builtin.bitAnd x (bJ (cM ins)))))=(0:Int))))
def k7 (number:Int):Nat→Int
 |0=>0
 |n+1=>Builtin.bitOr (k7 number n*2^(8:Int).toNat) (Builtin.bitAnd (number/2^((8:Int)*((0:Int)+(n:Int))).toNat) 255)
def uC (number bits:Int):Int:=k7 number (bits/8).toNat
def nZ (ins:Insn) (dst:Int):Int:=(if(decide (((ins.cls:Nat):Int)=(4:Int)))=true then(if ins.reg=true then(uC dst ins.imm)else(Builtin.bitAnd dst (bJ ins.imm)))else(uC dst ins.imm))
structure mP (i:Insn):Prop where
 op:i.op≤13
 swap:i.op=13→i.imm=16∨i.imm=32∨i.imm=64
 n8:i.op=11→i.off=0∨i.off=8∨i.off=16∨i.off=32
 off:i.op≠11→i.op≠13→i.off=0∨(i.off=1∧(i.op=3∨i.op=9))
def rH (op:Int) (a b bits:Int):Int:=
 if op=0 then tX a b bits else if op=1 then ud a b bits else if op=2 then t6 a b bits else if op=3 then lW a b bits else if op=4 then ue a b bits else if op=5 then t8 a b bits
 else if op=6 then t9 a b bits else if op=7 then ua a b bits else if op=8 then t7 a b bits else if op=9 then lZ a b bits else if op=10 then tY a b bits else if op=11 then tZ a b bits else uc a b bits
def rJ (op:Int) (a b bits:Int):Int:=if op=3 then kT a b bits else kW a b bits
def jY (ins:Insn) (dst x:Int):Int:=
 if ins.op=13 then nZ ins dst
 else if ins.op=11∧ins.off≠0 then Builtin.bitAnd (bB x ins.off) (bJ (cM ins))
 else Builtin.bitAnd ((if ins.off≠0 then rJ (ins.op:Int)else rH (ins.op:Int)) (Builtin.bitAnd dst (bJ (cM ins))) (Builtin.bitAnd x (bJ (cM ins))) (cM ins)) (bJ (cM ins))
def jZ (s:S3):Prop:=0≤s.2.1∧s.2.1≤s.2.2∧s.2.2<2^64
def uE (op:Int) (a b c d bits:Int):S3:=
 if op=0 then pJ a b c d bits else if op=1 then l9 a b c d bits else if op=2 then pL a b c d bits else if op=3 then lV a b c d bits else if op=4 then jP a b c d bits else if op=5 then pK a b c d bits
 else if op=6 then lY a b c d bits else if op=7 then jQ a b c d bits else if op=9 then kU a b c d bits else if op=10 then jP a b c d bits else l7 a b c d bits
def mQ (ins:Insn) (dst x:S3):S3:=if ins.op=8∨ins.off≠0 then dS (cM ins)else uE (ins.op:Int) dst.2.1 dst.2.2 x.2.1 x.2.2 (cM ins)
def uG (ins:Insn):Bool:=if ins.off=0 then jW ins else ins.reg&&(decide (ins.imm=0)&&(decide (ins.off=8)||decide (ins.off=16)||(decide (ins.cls=7)&&decide (ins.off=32))))
def eU (ins:Insn):Bool:=(if(decide (((ins.op:Nat):Int)=(13:Int)))=true then(nX ins)else(if(decide (((ins.op:Nat):Int)=(8:Int)))=true then(if(!ins.reg)=true then(if(decide (((ins.src:Nat):Int)=(0:Int)))=true then(if(decide (ins.off=(0:Int)))=true then(decide (ins.imm=(0:Int)))else false)else false)else false)else(if(decide (((ins.op:Nat):Int)=(11:Int)))=true then(uG ins)else(if(decide (((ins.op:Nat):Int)=(3:Int)))=true then(if(jW ins)=true then(c7 (V.int ins.off) [V.int (0:Int),V.int (1:Int)])else false)else(if(decide (((ins.op:Nat):Int)=(9:Int)))=true then(if(jW ins)=true then(c7 (V.int ins.off) [V.int (0:Int),V.int (1:Int)])else false)else(if(decide (((ins.op:Nat):Int)<(13:Int)))=true then(if(jW ins)=true then(decide (ins.off=(0:Int)))else false)else false))))))
def iO (ins:Insn) (dst:S3) (x:S3):S3:=(if(jU ins dst x)=true then(pS (jY ins dst.2.1 x.2.1))else(if(decide (((ins.op:Nat):Int)=(13:Int)))=true then(dS ins.imm)else(if(decide (((ins.op:Nat):Int)=(11:Int)))=true then(mF ins (if(decide (((ins.cls:Nat):Int)=(7:Int)))=true then x else(jn x)))else(if(decide (((ins.cls:Nat):Int)=(4:Int)))=true then(mQ ins (jn dst) (jn x))else(if(decide (dst.1=(0:Int)))=true then(if(decide (x.1=(0:Int)))=true then(mQ ins dst x)else(iN ins dst x))else(iN ins dst x))))))
def gX (p:List Insn) (place:Int):Bool:=decide (0≤place)&&Path.begins p place.toNat
def gk (ins:Insn) (place:Int):List Int:=if ins.code=149 then[]else if ins.code=24 then[place+2]else if jq ins=false then[place+1]else if ins.op=0 then[fj ins place]else[place+1,fj ins place]
def uI (g:Nat) (ins:Insn):Bool:=if g=0 then ji ins else if g=1 then jN ins else if g=2 then lX ins else if g=3 then jO ins else if g=4∨g=7 then eU ins else dM ins
def n9 (p:List Insn) (place:Int):Bool:=if uI (p.getD place.toNat aW).cls (p.getD place.toNat aW)=false then false
 else if(p.getD place.toNat aW).code=24∧place+1<(p.length:Int)then mK (p.getD (place+1).toNat aW)else true
def j0 (p:List Insn) (place:Int):Int:=if n9 p place=false then -2 else if nY (p.getD place.toNat aW)=true then -3
 else if((gk (p.getD place.toNat aW) place).map (gX p)).all id=false then -4 else 0
def gy (p:List Insn):Nat→List Int
 |0=>[]
 |n+1=>match gy p n with
  |[]=>if Path.begins p n=true∧j0 p (n:Int)≠0 then[j0 p (n:Int),(n:Int)]else[]
  |x::l=>x::l
def dU (K:W.Frag) (H:Hp) (v:V):Option (List S3)→Prop
 |none=>v= .aK
 |some l=>cE K H v l
def j9 (ins:Insn) (l:List S3) (x:S3) (rel:Str):S3×S3:=
 if ins.reg=true∧ins.src=ins.dst then(eK (eK (l.getD ins.dst (0,0,0)) rel x) "==" (eK x (uy rel) (l.getD ins.dst (0,0,0))),eK (eK (l.getD ins.dst (0,0,0)) rel x) "==" (eK x (uy rel) (l.getD ins.dst (0,0,0))))
 else(eK (l.getD ins.dst (0,0,0)) rel x,eK x (uy rel) (l.getD ins.dst (0,0,0)))
def p5 (ins:Insn) (l:List S3) (x:S3) (rel:Str):Option (List S3):=
 if uA (j9 ins l x rel).1=true∨uA (j9 ins l x rel).2=true then none
 else some (if ins.reg=true then(l.set ins.dst (j9 ins l x rel).1).set ins.src (j9 ins l x rel).2 else l.set ins.dst (j9 ins l x rel).1)
def p7 (ins:Insn) (l:List S3):Option (List S3)×Option (List S3):=if ig ins (l.getD ins.dst (0,0,0)) (jo ins l)=false then(some l,some l)
 else(p5 ins l (jo ins l) (pV ((ins.op:Nat):Int)),p5 ins l (jo ins l) (AJ (pV ((ins.op:Nat):Int))))
def fM (ins:Insn) (s:S3):List Int:=if s.1≠2 then[]else(List.range ((11+(s.2.1+ins.off+(ins.size:Int)-1)/8+1)-(11+(s.2.1+ins.off)/8)).toNat).map fun(k:Nat)=>11+(s.2.1+ins.off)/8+(k:Int)
def rL (ins:Insn) (s:S3):Prop:=s.1=2→0≤s.2.1+ins.off∧s.2.1+ins.off+(ins.size:Int)≤512
def AX (ins:Insn) (l:List S3):S3:=if ir ins (dI ins l)=true then l.getD (11+((dI ins l).2.1+ins.off)/8).toNat (0,0,0)else if ins.mode=96 then dS (8*(ins.size:Int))else(0,0,18446744073709551615)
def fm (l:List S3) (s:S3):List Int→List S3
 |[]=>l
 |k::r=>fm (l.set k.toNat s) s r
def DJ (ins:Insn) (l:List S3):List S3:=
 if dH ins=true∧ins.imm=241 then(fm l (jt ins l) (fM ins (dI ins l))).set 0 (dS (8*(ins.size:Int)))
 else if dH ins=true∧Builtin.bitAnd ins.imm 1≠0 then(fm l (jt ins l) (fM ins (dI ins l))).set ins.src (dS (8*(ins.size:Int)))
 else fm l (jt ins l) (fM ins (dI ins l))
def uM (ins:Insn) (l:List S3):List S3:=if ins.cls≠1 then DJ ins l else l.set ins.dst (AX ins l)
def AY (l:List S3):List S3:=fm (l.set 0 (0,0,18446744073709551615)) (0,0,0) [1,2,3,4,5]
def rN (least:Int):List S3:=(((List.replicate 75 ((0,0,0):S3)).set 1 (1,0,0)).set 2 (0,least,256)).set 10 (2,512,512)
abbrev Way:=Int×Option (List S3)
def AZ (ins:Insn) (place:Int) (l:List S3):List Way:=if ins.op=0 then[(fj ins place,some l)]else[(fj ins place,(p7 ins l).1),(place+1,(p7 ins l).2)]
structure IY (p:List Insn) (place:Int) (l:List S3):Prop where
 at_:0≤place∧place<(p.length:Int)
 wide:(p.getD place.toNat aW).code=24→place+1<(p.length:Int)
 mem:fk (p.getD place.toNat aW)=true→rL (p.getD place.toNat aW) (dI (p.getD place.toNat aW) l)
 alu:(p.getD place.toNat aW).cls=7∨(p.getD place.toNat aW).cls=4→mP (p.getD place.toNat aW)
 cls:(p.getD place.toNat aW).code≠149→(p.getD place.toNat aW).code≠24→(p.getD place.toNat aW).code≠133→jq (p.getD place.toNat aW)=false→fk (p.getD place.toNat aW)=false→(p.getD place.toNat aW).cls=7∨(p.getD place.toNat aW).cls=4
 sp:∀s∈l,jZ s
 UU:(p.getD place.toNat aW).cls=7∨(p.getD place.toNat aW).cls=4→jZ (jo (p.getD place.toNat aW) l)
def gz (p:List Insn) (place:Int) (l:List S3):List Way:=
 if(p.getD place.toNat aW).code=149 then[]else if(p.getD place.toNat aW).code=24 then[(place+2,some (l.set (p.getD place.toNat aW).dst (pS (nW p place))))]
 else if(p.getD place.toNat aW).code=133 then[(place+1,some (AY l))]else if jq (p.getD place.toNat aW)=true then AZ (p.getD place.toNat aW) place l
 else if fk (p.getD place.toNat aW)=true then[(place+1,some (uM (p.getD place.toNat aW) l))]
 else[(place+1,some (l.set (p.getD place.toNat aW).dst (iO (p.getD place.toNat aW) (l.getD (p.getD place.toNat aW).dst (0,0,0)) (jo (p.getD place.toNat aW) l))))]
def p9 (o:Option (List S3)) (l:List S3):List S3:=match o with
 |none=>l
 |some l0=>(l0.zip l).map fun x=>gU x.1 x.2
def mU (b:List Int):Insn:=⟨(b.getD 0 0).toNat,(b.getD 1 0).toNat%16,(b.getD 1 0).toNat/16,Path.sgn 16 ((b.getD 2 0).toNat+256*(b.getD 3 0).toNat),Path.sgn 32 ((b.getD 4 0).toNat+256*(b.getD 5 0).toNat+65536*(b.getD 6 0).toNat+16777216*(b.getD 7 0).toNat)⟩
def AllB (b:List Int):Prop:=∀z∈b,0≤z∧z≤255
def progOf (code:List Int):List Insn:=(List.range (code.length/8)).map fun(i:Nat)=>mU ((code.drop (8*i)).take 8)
abbrev gn:=List (Option (List S3))
structure kc (K:W.Frag) (H:Hp) (v:V) (ts:gn) (wr:Option Nat):Prop where
 ex:∃a C dx fs sl us,v= .ref a∧H a=some (.ins C dx fs)∧cO K C∧bV K C "states"∧bV K C "wrong"∧fs.lookup ("states":Str)=some (.ref sl)∧fs.lookup ("wrong":Str)=some (match wr with|none=> .aK|some k=> .int (k:Int))∧
  H sl=some (.lst us)∧Paired (dU K H) us ts
def gC (ts:gn) (w:Way):gn:=match w.2 with
 |none=>ts
 |some l=>ts.set w.1.toNat (some (p9 (ts.getD w.1.toNat none) l))
def qa (p:List Insn) (least:Int) (k:Nat) (x:gn×Option Nat):gn×Option Nat:=match x.1.getD k none with
 |none=>x
 |some l=>if iu (p.getD k aW) (k:Int) l least=true then((gz p (k:Int) l).foldl gC x.1,x.2)else(x.1,match x.2 with|none=>some k|some j=>some j)
def cH (p:List Insn) (least:Int):Nat→gn×Option Nat
 |0=>((List.replicate p.length none).set 0 (some (rN least)),none)
 |n+1=>qa p least n (cH p least n)
structure A6 (p:List Insn) (least:Int) (G:Nat→List S3→Prop):Prop where
 start:G 0 (rN least)
 way:∀k l,k<p.length→G k l→iu (p.getD k aW) (k:Int) l least=true→IY p (k:Int) l
 next:∀k l w l',k<p.length→G k l→iu (p.getD k aW) (k:Int) l least=true→w∈gz p (k:Int) l→w.2=some l'→0≤w.1∧w.1<(p.length:Int)∧G w.1.toNat l'
 join:∀k l l',G k l→G k l'→G k (p9 (some l) l')
def k8 (base:Int) (n:Nat) (a size:Int):Bool:=decide (base≤a)&&decide (a+size≤base+(n:Int))
def rQ (bs:List Int) (i:Nat):Nat→Int
 |0=>0
 |n+1=>Builtin.bitOr (rQ bs i n) (bs.getD (i+n) 0*2^((8:Int)*((0:Int)+(n:Int))).toNat)
def putN (bs:List Int) (i:Nat) (number:Int):Nat→List Int
 |0=>bs
 |n+1=>(putN bs i number n).set (i+n) (Builtin.bitAnd (number/2^((8:Int)*((0:Int)+(n:Int))).toNat) 255)
structure RS where
 regs:List Int
 data:List Int
 stack:List Int
 bw:List Int
 asked:List (List Int)
 place:Int
 ending:Option Int
structure RA where
 (a dx rl dm k9 dc sm gD sc hl al:Addr)
def dW (data bw:List Int):RS:=⟨[0,4294967296,(data.length:Int),0,0,0,0,0,0,0,8589934592],data,List.replicate 512 0,bw,[],0,none⟩
def gE (L:RA):Bool→Addr|true=>L.dm|false=>L.sm
def baseOf:Bool→Int|true=>4294967296|false=>8589934080
def cellsOf (r:RS):Bool→List Int|true=>r.data|false=>r.stack
def A9 (r:RS) (w:Bool) (g:List Int):RS:=match w with|true=>{r with data:=g}|false=>{r with stack:=g}
def ko (r:RS) (a n:Int):Option Bool:=if k8 4294967296 r.data.length a n=true then some true else if k8 8589934080 r.stack.length a n=true then some false else none
structure mV (r:RS):Prop where
 len:r.regs.length=11
 regs:∀z∈r.regs,0≤z∧z<2^64
 dat:AllB r.data
 stk:AllB r.stack
 ZQ:r.stack.length=512
 ZR:r.data.length≤256
def kr (r:RS) (ins:Insn):Int:=if ins.reg=true then r.regs.getD ins.src 0 else Builtin.bitAnd ins.imm 18446744073709551615
structure JA (p:List Insn) (r:RS) (ins:Insn):Prop where
 at_:0≤r.place∧r.place<(p.length:Int)
 reg:ins.dst≤10∧ins.src≤10
 wide:ins.cls=0→r.place+1<(p.length:Int)
 alu:ins.cls=7∨ins.cls=4→mP ins
 ask:r.asked.length≤4000∧r.bw.length%2=0
def pM (p:List Insn) (r:RS) (ins:Insn):RS:={r with regs:=r.regs.set ins.dst (nW p r.place),place:=r.place+2}
def uS (p:List Insn) (r:RS) (ins:Insn):RS:={r with regs:=r.regs.set ins.dst (jY ins (r.regs.getD ins.dst 0) (kr r ins)),place:=r.place+1}
def iz (r:RS) (w:Bool) (a n:Int):Int:=rQ (cellsOf r w) (a-baseOf w).toNat n.toNat
def nN (p:List Insn) (r:RS) (ins:Insn):RS:=match ko r (r.regs.getD ins.src 0+ins.off) (ins.size:Int)with
 |none=>{r with ending:=some 1}
 |some w=>{r with regs:=r.regs.set ins.dst (if ins.mode=128 then Builtin.bitAnd (bB (iz r w (r.regs.getD ins.src 0+ins.off) (ins.size:Int)) (8*(ins.size:Int))) 18446744073709551615 else iz r w (r.regs.getD ins.src 0+ins.off) (ins.size:Int)),place:=r.place+1}
def gF (r:RS) (w:Bool) (a n z:Int):RS:=A9 r w (putN (cellsOf r w) (a-baseOf w).toNat z n.toNat)
def ow (r:RS) (ins:Insn) (w:Bool) (a:Int):RS:=
 if ins.imm=241 then{(if iz r w a (ins.size:Int)=Builtin.bitAnd (r.regs.getD 0 0) (bJ (8*(ins.size:Int)))then gF r w a (ins.size:Int) (r.regs.getD ins.src 0)else r)with regs:=r.regs.set 0 (iz r w a (ins.size:Int))}
 else if Builtin.bitAnd ins.imm 1≠0 then{gF r w a (ins.size:Int) (gx (Builtin.bitAnd ins.imm 240) (iz r w a (ins.size:Int)) (r.regs.getD ins.src 0))with regs:=r.regs.set ins.src (iz r w a (ins.size:Int))}
 else gF r w a (ins.size:Int) (gx (Builtin.bitAnd ins.imm 240) (iz r w a (ins.size:Int)) (r.regs.getD ins.src 0))
def l8 (p:List Insn) (r:RS) (ins:Insn):RS:=match ko r (r.regs.getD ins.dst 0+ins.off) (ins.size:Int)with
 |none=>{r with ending:=some 1}
 |some w=>if dH ins=true∧(r.regs.getD ins.dst 0+ins.off)%(ins.size:Int)≠0 then{r with ending:=some 1}
  else if dH ins=true then{ow r ins w (r.regs.getD ins.dst 0+ins.off)with place:=r.place+1}
  else{gF r w (r.regs.getD ins.dst 0+ins.off) (ins.size:Int) (if ins.cls=3 then r.regs.getD ins.src 0 else ins.imm)with place:=r.place+1}
def fB (bw:List Int) (n:Nat):Int×Int:=if 2*n<bw.length then(bw.getD (2*n) 0,bw.getD (2*n+1) 0)else(0,0)
def rowOf (r:RS) (ins:Insn):List Int:=[Builtin.bitAnd ins.imm 4294967295]++(r.regs.drop 1).take 5++[r.regs.getD 0 0]
def uV (r:RS) (ins:Insn):RS:=if(fB r.bw r.asked.length).2≠0 then{r with asked:=r.asked++[rowOf r ins],ending:=some 3}
 else{r with asked:=r.asked++[rowOf r ins],regs:=[(fB r.bw r.asked.length).1,0,0,0,0,0]++r.regs.drop 6,place:=r.place+1}
def jR (p:List Insn) (r:RS) (ins:Insn):RS:=if ins.code=149 then{r with ending:=some 0}else if ins.code=133 then uV r ins
 else if ins.op=0∨gW ins (r.regs.getD ins.dst 0) (kr r ins)=true then{r with place:=fj ins r.place}else{r with place:=r.place+1}
def fW (p:List Insn) (r:RS):RS:=
 if(p.getD r.place.toNat aW).cls=0 then pM p r (p.getD r.place.toNat aW)else if(p.getD r.place.toNat aW).cls=1 then nN p r (p.getD r.place.toNat aW)
 else if(p.getD r.place.toNat aW).cls=2∨(p.getD r.place.toNat aW).cls=3 then l8 p r (p.getD r.place.toNat aW)else if(p.getD r.place.toNat aW).cls=4∨(p.getD r.place.toNat aW).cls=7 then uS p r (p.getD r.place.toNat aW)
 else jR p r (p.getD r.place.toNat aW)
def ef (p:List Insn):Nat→RS→RS
 |0,r=>if r.ending=none then{r with ending:=some 2}else r
 |n+1,r=>if r.ending=none then ef p n (fW p r)else r
structure Bd (p:List Insn) (I:Nat→RS→Prop):Prop where
 ok:∀i r,I i r→r.ending=none→mV r∧JA p r (p.getD r.place.toNat aW)
 next:∀i r,i<2000→I i r→r.ending=none→I (i+1) (fW p r)
def rT (r:RS):List Int:=[r.ending.getD 0,if r.ending=some 0 then -1 else r.place,(r.asked.length:Int)]++r.asked.flatten++[(r.data.length:Int)]++r.data
def mW (z:Int):Bool:=if decide ((0:Int)≤z)=true then decide (z≤255)else false
def mX (l:List Int):Bool:=(l.map mW).all id
def jw (l:List Int):Bool:=if l.length=0∨l.length%8≠0∨1024<l.length then false else mX l
def iR (l:List Int):Bool:=if l.length≤256 then mX l else false
def mY (z:Int):Bool:=if decide ((0:Int)≤z)=true then decide (z≤18446744073709551615)else false
def gY (l:List Int):Bool:=if l.length%2≠0 then false else((List.range (l.length/2)).map fun(i:Nat)=>mY (l.getD (2*i) 0)).all id
structure RR where
 prog:Option (List Insn)
 iB:Option (gn×Option Nat)
 last:Option (List Int×List Int)
def rV (R:RR) (code:List Int):RR×List Int:=if jw code=true then(if gy (progOf code) (progOf code).length=[]then(⟨some (progOf code),none,none⟩,[0])else(R,gy (progOf code) (progOf code).length))else(R,[-1])
def mZ (R:RR) (least:Int):RR×List Int:=match R.prog with
 |none=>(R,[-1])
 |some p=>if 0≤least∧least≤256 then({R with iB:=some (cH p least p.length)},match(cH p least p.length).2 with|none=>[0]|some k=>[1,(k:Int)])else(R,[-2])
def lu (R:RR) (place slot:Int):List Int:=match R.iB,R.prog with
 |some t,some p=>if gX p place=true∧0≤slot∧slot<75 then(match t.1.getD place.toNat none with|none=>[3]|some l=>[(l.getD slot.toNat (0,0,0)).1,(l.getD slot.toNat (0,0,0)).2.1,(l.getD slot.toNat (0,0,0)).2.2])else[-1]
 |_,_=>[-1]
def ly (R:RR) (n:Int):List Int:=match R.last with
 |none=>[-1]
 |some t=>if 0≤n∧n≤10 then[t.1.getD n.toNat 0]else[-1]
def lz (R:RR):List Int:=match R.last with
 |none=>[-1]
 |some t=>(t.2.length:Int)::t.2
def TO (r:RS):Prop:=r.asked.length≤4000∧(∀row∈r.asked,row.length=7)∧r.data.length≤256
def m6 (R:RR) (most:Int) (data bw:List Int):RR×List Int:=match R.prog with
 |none=>(R,[-1])
 |some p=>if(0≤most∧most≤2000)∧iR data=true∧gY bw=true then
   ({R with last:=some ((ef p most.toNat (dW data bw)).regs,(ef p most.toNat (dW data bw)).stack)},rT (ef p most.toNat (dW data bw)))else(R,[-2])
def ku:Path.Call→List Int
 | .load l=>0::(l.length:Int)::l
 | .judge n=>[1,n]
 | .range a b=>[2,a,b]
 | .run n d h=>3::n::(d.length:Int)::(d++(h.length:Int)::h)
 | .reg r=>[4,r]
 | .stack=>[5]
def dB (R:RR):Path.Call→RR×List Int
 | .load l=>rV R l
 | .judge n=>mZ R n
 | .range a b=>(R,lu R a b)
 | .run n d h=>m6 R n d h
 | .reg r=>(R,ly R r)
 | .stack=>(R,lz R)
def Pre (R:RR):Path.Call→Prop
 | .load l=>l.length≤100000
 | .judge least=>∀p,R.prog=some p→0≤least→least≤256→∃G,A6 p least G
 | .range _ _=>∀t,R.iB=some t→∃p,R.prog=some p∧t.1.length=p.length
 | .run most data bw=>(data.length≤100000∧bw.length≤100000)∧∀p,R.prog=some p→0≤most→most≤2000→iR data=true→gY bw=true→∃I,Bd p I∧I 0 (dW data bw)∧TO (ef p most.toNat (dW data bw))
 | .reg _=>∀t,R.last=some t→t.1.length=11
 | .stack=>∀t,R.last=some t→t.2.length=512
def r6:RR:=⟨none,none,none⟩
def lA:RR→List Path.Call→List Int
 |_,[]=>[]
 |R,c::cs=>((dB R c).2.length:Int)::((dB R c).2++lA (dB R c).1 cs)
def Bj (K:W.Frag) (B:bE):Sp:=fun vs H Q _=>∃(a:Addr) (ns:List Int) (cs:List Path.Call) (J:RR→Prop),vs=[.ref a]∧aJ K H a (ns.map V.int)∧ns=cs.flatMap ku∧cs.length≤400∧J r6∧(∀R c,J R→c∈cs→Pre R c∧J (dB R c).1∧(dB R c).2.length≤14300)∧
 ∀w H',ah H H'→H' w=some (.lst ((lA r6 cs).map V.int))→Q (.ref w) H'
structure aae where
 (P:Program) (w:World) (K:W.Frag) (mg:Str→Option Value) (A:jL) (B:bE)
def aaa (e:aae):Prop:=cF e.P e.w e.K e.mg e.A e.B→∃(f:Addr) (fd:FuncData),e.mg "answers"=some (.ref f)∧(∀(s:Shared) (us:List Value),us.length=["calls"].length→BindsTo s fd ⟨us,[]⟩ ((["calls"]:List Str).zip us))∧∀base,dF e.P e.w e.K e.mg base gS 12 f fd ["calls"] (Bj e.K e.B)
theorem aab:∃e:aae,aaa e→∀e,aaa e:=by
 by_cases h:∃e,¬aaa e
 ·exact⟨h.choose,fun g=>absurd g h.choose_spec⟩
 ·exact⟨⟨PySem.Challenge.pw_judgedprograms_s01_answers,W.aWorld 0,[],fun _=>none,A0,B0⟩,fun _ e=>Classical.byContradiction fun n=>h ⟨e,n⟩⟩
noncomputable def F6:aae:=Classical.choose aab
@[irreducible] noncomputable def Ev0.P:Program:=F6.P
@[irreducible] noncomputable def Ev0.w:World:=F6.w
@[irreducible] noncomputable def Ev0.K:W.Frag:=F6.K
@[irreducible] noncomputable def Ev0.mg:Str→Option Value:=F6.mg
@[irreducible] noncomputable def Ev0.A:jL:=F6.A
@[irreducible] noncomputable def Ev0.B:bE:=F6.B
theorem aad {CX:iI} {P:Program} {w:World} {K:W.Frag} {mg:Str→Option Value} {base:Heap} {N:List Str} {qual:Str} {scope:Scope} {f:Addr} {cd:Value} {A:Around} {outer:List Env} {s:Shared} {H:Hp} {E:XK}:Cx.K (Cx.oU (lN CX P w K mg base N qual scope f cd A outer s H E))=K:=rfl
end My
namespace My
open PySem PySem.Spec PyProof.Rows L2
open PySem.W (Frag)
open Path (Insn bitsOf State_ numbers inBits Range_ beginsFrom askTold littleOf helpersIn Bytes)
open My.Ev0
variable {base:Heap}
def AF (K:W.Frag):Sp:=fun vs H Q _=>∃(bits:Int),vs=[.int bits]∧(0≤bits∧bits≤1000000)∧Q (.int (bJ bits)) H
theorem PZ:aI ["bits"] ["bits"] (aG (top 7)):=aM
theorem gi (T:Txt P w K mg A):Callee P w K mg base 1 "ones" ["bits"] (AF K):=by
 refine aT T.wI PZ (fun _ _ _ _ _ _=>Z9 fun _=>by kernel_rfl) (fun _ _ _ _ h=>?_) (fun _ _ _ _ _ H vs Q E _ h=>?_)
 ·obtain⟨_,rfl,_⟩:=h
  rfl
 ·obtain⟨bits,rfl,hp,k⟩:=h
  have kk:∀r,bJ bits=r→Q (.int r) H:=fun r e=>e▸k
  refine⟨_,(ak (ay (aF fF (aF jb aj (pv 0)) aj))),?_⟩
  try dsimp only[aad]
  refine⟨_,rfl,_,_,rfl,rfl,⟨by first|omega|decide,by first|omega|decide,by first|omega|decide⟩,_,_,rfl,rfl,?_⟩
  exact kk _ rfl
def P0 (K:W.Frag):Sp:=fun vs H Q _=>∃(number:Int) (bits:Int),vs=[.int number,.int bits]∧(1≤bits∧bits≤64)∧Q (.int (bB number bits)) H
theorem HX:aI ["number","bits","low"] ["number","bits"] (aG (top 8)):=aM
theorem iL (T:Txt P w K mg A):Callee P w K mg base 2 "signed" ["number","bits"] (P0 K):=by
 refine aT T.wJ HX (fun _ _ _ _ _ _=>ln2 fun _ _=>by kernel_rfl) (fun _ _ _ _ h=>?_) (fun _ _ _ _ _ H vs Q E hr h=>?_)
 ·obtain⟨_,_,rfl,_⟩:=h
  rfl
 ·obtain⟨number,bits,rfl,hp,k⟩:=h
  have kk:∀r,bB number bits=r→Q (.int r) H:=fun r e=>e▸k
  refine⟨_,(au (bg (i:=2) HX.nd rfl (Or.inl rfl) (aF cT (pv 0) (aE (gi T) (hr.mono (by decide)) (af (pv 1) ai)))) (au (aN (bI (aF lK (pv 2) (aF fF (pv 1) aj)) (fun _=>rfl)) (ak (ay (aF fF (pv 2) (aF jb aj (pv 1))))) aP) (ak (ay (pv 2))))),?_⟩
  try dsimp only[aad]
  refine⟨_,rfl,_,rfl,_,rfl,(by first|omega|decide),_,_,rfl,rfl,_,rfl,_,rfl,_,_,rfl,rfl,_,_,rfl,rfl,(by show(0:Int)≤_;first|omega|decide),_,rfl,?_⟩
  refine ao (fun h1=>?_) (fun h1=>?_)
  ·
   refine⟨_,rfl,_,rfl,_,_,rfl,rfl,⟨by first|omega|decide,by first|omega|decide,by first|omega|decide⟩,_,_,rfl,rfl,?_⟩
   exact kk _ (by simp only[bB,aPos h1])
  ·
   refine⟨_,rfl,?_⟩
   exact kk _ (by simp only[bB,aa h1])
def HY (K:W.Frag):Sp:=fun vs H Q _=>∃(aA:V) (ins:Insn),vs=[aA]∧bf K H aA ins∧Q (.int (cM ins)) H
theorem P1:aI ["ins"] ["ins"] (aG (top 9)):=aM
theorem nT (T:Txt P w K mg A):Callee P w K mg base 1 "width" ["ins"] (HY K):=by
 refine aT T.wK P1 (fun _ _ _ _ _ _=>Z9 fun _=>by kernel_rfl) (fun _ _ _ _ h=>?_) (fun _ _ _ _ _ H vs Q E _ h=>?_)
 ·obtain⟨_,_,rfl,_⟩:=h
  rfl
 ·obtain⟨aA,ins,rfl,aq,k⟩:=h
  have kk:∀r,cM ins=r→Q (.int r) H:=fun r e=>e▸k
  refine⟨_,(ak (ay (cN (aX (nF (az (pv 0)) (af aj (af aj ai))) (by with_unfolding_all rfl)) aj aj))),?_⟩
  try dsimp only[aad]
  refine⟨_,rfl,_,aq.gT,rfl,rfl,(by decide),_,rfl,?_⟩
  refine ao (fun h1=>?_) (fun h1=>?_)
  ·
   exact kk _ (by simp only[cM,aPos h1])
  ·
   exact kk _ (by simp only[cM,aa h1])
def P4 (K:W.Frag):Sp:=fun vs H Q _=>∃(a:Int) (b:Int) (bits:Int),vs=[.int a,.int b,.int bits]∧((0≤a∧a<2^64∧0≤b∧b<2^64∧(bits=32∨bits=64)))∧Q (.int (tX a b bits)) H
theorem P5:aI ["a","b","bits"] ["a","b","bits"] (aG (top 10)):=aM
theorem P6 (T:Txt P w K mg A):Callee P w K mg base 1 "added" ["a","b","bits"] (P4 K):=by
 refine aT T.wL P5 (fun _ _ _ _ _ _=>Z8 fun _ _ _=>by kernel_rfl) (fun _ _ _ _ h=>?_) (fun _ _ _ _ _ H vs Q E _ h=>?_)
 ·obtain⟨_,_,_,rfl,_⟩:=h
  rfl
 ·obtain⟨a,b,bits,rfl,hp,k⟩:=h
  have kk:∀r,tX a b bits=r→Q (.int r) H:=fun r e=>e▸k
  refine⟨_,(ak (ay (aF bL (pv 0) (pv 1)))),?_⟩
  try dsimp only[aad]
  refine⟨_,rfl,_,rfl,_,_,rfl,rfl,?_⟩
  exact kk _ rfl
def P7 (K:W.Frag):Sp:=fun vs H Q _=>∃(a:Int) (b:Int) (bits:Int),vs=[.int a,.int b,.int bits]∧((0≤a∧a<2^64∧0≤b∧b<2^64∧(bits=32∨bits=64)))∧Q (.int (ud a b bits)) H
theorem P8:aI ["a","b","bits"] ["a","b","bits"] (aG (top 11)):=aM
theorem P9 (T:Txt P w K mg A):Callee P w K mg base 1 "subtracted" ["a","b","bits"] (P7 K):=by
 refine aT T.wM P8 (fun _ _ _ _ _ _=>Z8 fun _ _ _=>by kernel_rfl) (fun _ _ _ _ h=>?_) (fun _ _ _ _ _ H vs Q E _ h=>?_)
 ·obtain⟨_,_,_,rfl,_⟩:=h
  rfl
 ·obtain⟨a,b,bits,rfl,hp,k⟩:=h
  have kk:∀r,ud a b bits=r→Q (.int r) H:=fun r e=>e▸k
  refine⟨_,(ak (ay (aF fF (pv 0) (pv 1)))),?_⟩
  try dsimp only[aad]
  refine⟨_,rfl,_,rfl,_,_,rfl,rfl,?_⟩
  exact kk _ rfl
def Qa (K:W.Frag):Sp:=fun vs H Q _=>∃(a:Int) (b:Int) (bits:Int),vs=[.int a,.int b,.int bits]∧((0≤a∧a<2^64∧0≤b∧b<2^64∧(bits=32∨bits=64)))∧Q (.int (t6 a b bits)) H
theorem Qc:aI ["a","b","bits"] ["a","b","bits"] (aG (top 12)):=aM
theorem Qe (T:Txt P w K mg A):Callee P w K mg base 1 "multiplied" ["a","b","bits"] (Qa K):=by
 refine aT T.wN Qc (fun _ _ _ _ _ _=>Z8 fun _ _ _=>by kernel_rfl) (fun _ _ _ _ h=>?_) (fun _ _ _ _ _ H vs Q E _ h=>?_)
 ·obtain⟨_,_,_,rfl,_⟩:=h
  rfl
 ·obtain⟨a,b,bits,rfl,hp,k⟩:=h
  have kk:∀r,t6 a b bits=r→Q (.int r) H:=fun r e=>e▸k
  refine⟨_,(ak (ay (aF iF (pv 0) (pv 1)))),?_⟩
  try dsimp only[aad]
  refine⟨_,rfl,_,rfl,_,_,rfl,rfl,(by first|exact Or.inl ⟨by first|omega|decide,by first|omega|decide⟩|exact Or.inr ⟨by first|omega|decide,by first|omega|decide⟩),?_⟩
  exact kk _ rfl
def Qg (K:W.Frag):Sp:=fun vs H Q _=>∃(a:Int) (b:Int) (bits:Int),vs=[.int a,.int b,.int bits]∧((0≤a∧a<2^64∧0≤b∧b<2^64∧(bits=32∨bits=64)))∧Q (.int (lW a b bits)) H
theorem Qh:aI ["a","b","bits"] ["a","b","bits"] (aG (top 13)):=aM
theorem Qi (T:Txt P w K mg A):Callee P w K mg base 1 "divided" ["a","b","bits"] (Qg K):=by
 refine aT T.wO Qh (fun _ _ _ _ _ _=>Z8 fun _ _ _=>by kernel_rfl) (fun _ _ _ _ h=>?_) (fun _ _ _ _ _ H vs Q E _ h=>?_)
 ·obtain⟨_,_,_,rfl,_⟩:=h
  rfl
 ·obtain⟨a,b,bits,rfl,hp,k⟩:=h
  have kk:∀r,lW a b bits=r→Q (.int r) H:=fun r e=>e▸k
  refine⟨_,(ak (ay (cN (bI (pv 1) (fun _=>rfl)) (aF pB (pv 0) (pv 1)) aj))),?_⟩
  try dsimp only[aad]
  refine⟨_,rfl,_,rfl,?_⟩
  refine ao (fun h1=>?_) (fun h1=>?_)
  ·
   have g1:b≠0:=by simpa using h1
   refine⟨_,rfl,_,rfl,_,_,rfl,rfl,⟨by first|omega|decide,by first|omega|decide⟩,?_⟩
   exact kk _ (by simp only[lW,aPos h1])
  ·
   have g1:b=0:=by simpa using h1
   exact kk _ (by simp only[lW,aa h1])
def Qj (K:W.Frag):Sp:=fun vs H Q _=>∃(a:Int) (b:Int) (bits:Int),vs=[.int a,.int b,.int bits]∧((0≤a∧a<2^64∧0≤b∧b<2^64∧(bits=32∨bits=64)))∧Q (.int (lZ a b bits)) H
theorem Qk:aI ["a","b","bits"] ["a","b","bits"] (aG (top 14)):=aM
theorem Ql (T:Txt P w K mg A):Callee P w K mg base 1 "remainder" ["a","b","bits"] (Qj K):=by
 refine aT T.wQ Qk (fun _ _ _ _ _ _=>Z8 fun _ _ _=>by kernel_rfl) (fun _ _ _ _ h=>?_) (fun _ _ _ _ _ H vs Q E _ h=>?_)
 ·obtain⟨_,_,_,rfl,_⟩:=h
  rfl
 ·obtain⟨a,b,bits,rfl,hp,k⟩:=h
  have kk:∀r,lZ a b bits=r→Q (.int r) H:=fun r e=>e▸k
  refine⟨_,(ak (ay (cN (bI (pv 1) (fun _=>rfl)) (aF g9 (pv 0) (pv 1)) (pv 0)))),?_⟩
  try dsimp only[aad]
  refine⟨_,rfl,_,rfl,?_⟩
  refine ao (fun h1=>?_) (fun h1=>?_)
  ·
   have g1:b≠0:=by simpa using h1
   refine⟨_,rfl,_,rfl,_,_,rfl,rfl,(by show(0:Int)<_;first|omega|decide),?_⟩
   exact kk _ (by simp only[lZ,aPos h1])
  ·
   have g1:b=0:=by simpa using h1
   refine⟨_,rfl,?_⟩
   exact kk _ (by simp only[lZ,aa h1])
def Qm (K:W.Frag):Sp:=fun vs H Q _=>∃(a:Int) (b:Int) (bits:Int),vs=[.int a,.int b,.int bits]∧((0≤a∧a<2^64∧0≤b∧b<2^64∧(bits=32∨bits=64)))∧Q (.int (ue a b bits)) H
theorem Qn:aI ["a","b","bits"] ["a","b","bits"] (aG (top 17)):=aM
theorem Qo (T:Txt P w K mg A):Callee P w K mg base 1 "united" ["a","b","bits"] (Qm K):=by
 refine aT T.wV Qn (fun _ _ _ _ _ _=>Z8 fun _ _ _=>by kernel_rfl) (fun _ _ _ _ h=>?_) (fun _ _ _ _ _ H vs Q E _ h=>?_)
 ·obtain⟨_,_,_,rfl,_⟩:=h
  rfl
 ·obtain⟨a,b,bits,rfl,hp,k⟩:=h
  have kk:∀r,ue a b bits=r→Q (.int r) H:=fun r e=>e▸k
  refine⟨_,(ak (ay (aF vS (pv 0) (pv 1)))),?_⟩
  try dsimp only[aad]
  refine⟨_,rfl,_,rfl,_,_,rfl,rfl,?_⟩
  exact kk _ rfl
def Qp (K:W.Frag):Sp:=fun vs H Q _=>∃(a:Int) (b:Int) (bits:Int),vs=[.int a,.int b,.int bits]∧((0≤a∧a<2^64∧0≤b∧b<2^64∧(bits=32∨bits=64)))∧Q (.int (t8 a b bits)) H
theorem Qq:aI ["a","b","bits"] ["a","b","bits"] (aG (top 18)):=aM
theorem Qs (T:Txt P w K mg A):Callee P w K mg base 1 "shared" ["a","b","bits"] (Qp K):=by
 refine aT T.wW Qq (fun _ _ _ _ _ _=>Z8 fun _ _ _=>by kernel_rfl) (fun _ _ _ _ h=>?_) (fun _ _ _ _ _ H vs Q E _ h=>?_)
 ·obtain⟨_,_,_,rfl,_⟩:=h
  rfl
 ·obtain⟨a,b,bits,rfl,hp,k⟩:=h
  have kk:∀r,t8 a b bits=r→Q (.int r) H:=fun r e=>e▸k
  refine⟨_,(ak (ay (aF cT (pv 0) (pv 1)))),?_⟩
  try dsimp only[aad]
  refine⟨_,rfl,_,rfl,_,_,rfl,rfl,?_⟩
  exact kk _ rfl
def Qt (K:W.Frag):Sp:=fun vs H Q _=>∃(a:Int) (b:Int) (bits:Int),vs=[.int a,.int b,.int bits]∧((0≤a∧a<2^64∧0≤b∧b<2^64∧(bits=32∨bits=64)))∧Q (.int (tY a b bits)) H
theorem Qu:aI ["a","b","bits"] ["a","b","bits"] (aG (top 19)):=aM
theorem Qv (T:Txt P w K mg A):Callee P w K mg base 1 "differing" ["a","b","bits"] (Qt K):=by
 refine aT T.wX Qu (fun _ _ _ _ _ _=>Z8 fun _ _ _=>by kernel_rfl) (fun _ _ _ _ h=>?_) (fun _ _ _ _ _ H vs Q E _ h=>?_)
 ·obtain⟨_,_,_,rfl,_⟩:=h
  rfl
 ·obtain⟨a,b,bits,rfl,hp,k⟩:=h
  have kk:∀r,tY a b bits=r→Q (.int r) H:=fun r e=>e▸k
  refine⟨_,(ak (ay (aF FP (pv 0) (pv 1)))),?_⟩
  try dsimp only[aad]
  refine⟨_,rfl,_,rfl,_,_,rfl,rfl,?_⟩
  exact kk _ rfl
def Qw (K:W.Frag):Sp:=fun vs H Q _=>∃(a:Int) (b:Int) (bits:Int),vs=[.int a,.int b,.int bits]∧((0≤a∧a<2^64∧0≤b∧b<2^64∧(bits=32∨bits=64)))∧Q (.int (t9 a b bits)) H
theorem Qx:aI ["a","b","bits"] ["a","b","bits"] (aG (top 20)):=aM
theorem Qy (T:Txt P w K mg A):Callee P w K mg base 1 "shifted_left" ["a","b","bits"] (Qw K):=by
 refine aT T.wY Qx (fun _ _ _ _ _ _=>Z8 fun _ _ _=>by kernel_rfl) (fun _ _ _ _ h=>?_) (fun _ _ _ _ _ H vs Q E _ h=>?_)
 ·obtain⟨_,_,_,rfl,_⟩:=h
  rfl
 ·obtain⟨a,b,bits,rfl,hp,k⟩:=h
  have kk:∀r,t9 a b bits=r→Q (.int r) H:=fun r e=>e▸k
  have q1:=Int.emod_nonneg b (show bits≠0 by omega)
  have q2:=Int.emod_lt_of_pos b (show 0<bits by omega)
  refine⟨_,(ak (ay (aF jb (pv 0) (aF g9 (pv 1) (pv 2))))),?_⟩
  try dsimp only[aad]
  refine⟨_,rfl,_,rfl,_,rfl,_,_,rfl,rfl,(by show(0:Int)<_;first|omega|decide),_,_,rfl,rfl,⟨by first|omega|decide,by first|omega|decide,by first|omega|decide⟩,?_⟩
  exact kk _ rfl
def Qz (K:W.Frag):Sp:=fun vs H Q _=>∃(a:Int) (b:Int) (bits:Int),vs=[.int a,.int b,.int bits]∧((0≤a∧a<2^64∧0≤b∧b<2^64∧(bits=32∨bits=64)))∧Q (.int (ua a b bits)) H
theorem QA:aI ["a","b","bits"] ["a","b","bits"] (aG (top 21)):=aM
theorem QB (T:Txt P w K mg A):Callee P w K mg base 1 "shifted_right" ["a","b","bits"] (Qz K):=by
 refine aT T.wZ QA (fun _ _ _ _ _ _=>Z8 fun _ _ _=>by kernel_rfl) (fun _ _ _ _ h=>?_) (fun _ _ _ _ _ H vs Q E _ h=>?_)
 ·obtain⟨_,_,_,rfl,_⟩:=h
  rfl
 ·obtain⟨a,b,bits,rfl,hp,k⟩:=h
  have kk:∀r,ua a b bits=r→Q (.int r) H:=fun r e=>e▸k
  have q1:=Int.emod_nonneg b (show bits≠0 by omega)
  have q2:=Int.emod_lt_of_pos b (show 0<bits by omega)
  refine⟨_,(ak (ay (aF lK (pv 0) (aF g9 (pv 1) (pv 2))))),?_⟩
  try dsimp only[aad]
  refine⟨_,rfl,_,rfl,_,rfl,_,_,rfl,rfl,(by show(0:Int)<_;first|omega|decide),_,_,rfl,rfl,(by show(0:Int)≤_;first|omega|decide),?_⟩
  exact kk _ rfl
def QC (K:W.Frag):Sp:=fun vs H Q _=>∃(a:Int) (b:Int) (bits:Int),vs=[.int a,.int b,.int bits]∧((0≤a∧a<2^64∧0≤b∧b<2^64∧(bits=32∨bits=64)))∧Q (.int (uc a b bits)) H
theorem QD:aI ["a","b","bits"] ["a","b","bits"] (aG (top 22)):=aM
theorem QE (T:Txt P w K mg A):Callee P w K mg base 3 "shifted_right_signed" ["a","b","bits"] (QC K):=by
 refine aT T.w9 QD (fun _ _ _ _ _ _=>Z8 fun _ _ _=>by kernel_rfl) (fun _ _ _ _ h=>?_) (fun _ _ _ _ _ H vs Q E hr h=>?_)
 ·obtain⟨_,_,_,rfl,_⟩:=h
  rfl
 ·obtain⟨a,b,bits,rfl,hp,k⟩:=h
  have kk:∀r,uc a b bits=r→Q (.int r) H:=fun r e=>e▸k
  have q1:=Int.emod_nonneg b (show bits≠0 by omega)
  have q2:=Int.emod_lt_of_pos b (show 0<bits by omega)
  refine⟨_,(ak (ay (aF lK (aE (iL T) (hr.mono (by decide)) (af (pv 0) (af (pv 2) ai))) (aF g9 (pv 1) (pv 2))))),?_⟩
  try dsimp only[aad]
  refine⟨_,rfl,_,rfl,_,_,rfl,(by first|omega|decide),_,rfl,_,rfl,_,_,rfl,rfl,(by show(0:Int)<_;first|omega|decide),_,_,rfl,rfl,(by show(0:Int)≤_;first|omega|decide),?_⟩
  exact kk _ rfl
def QF (K:W.Frag):Sp:=fun vs H Q _=>∃(a:Int) (b:Int) (bits:Int),vs=[.int a,.int b,.int bits]∧((0≤a∧a<2^64∧0≤b∧b<2^64∧(bits=32∨bits=64)))∧Q (.int (t7 a b bits)) H
theorem QG:aI ["a","b","bits"] ["a","b","bits"] (aG (top 23)):=aM
theorem QH (T:Txt P w K mg A):Callee P w K mg base 1 "negated" ["a","b","bits"] (QF K):=by
 refine aT T.xg QG (fun _ _ _ _ _ _=>Z8 fun _ _ _=>by kernel_rfl) (fun _ _ _ _ h=>?_) (fun _ _ _ _ _ H vs Q E _ h=>?_)
 ·obtain⟨_,_,_,rfl,_⟩:=h
  rfl
 ·obtain⟨a,b,bits,rfl,hp,k⟩:=h
  have kk:∀r,t7 a b bits=r→Q (.int r) H:=fun r e=>e▸k
  refine⟨_,(ak (ay (gM gO (pv 0)))),?_⟩
  try dsimp only[aad]
  refine⟨_,rfl,_,rfl,?_⟩
  exact kk _ rfl
def QI (K:W.Frag):Sp:=fun vs H Q _=>∃(a:Int) (b:Int) (bits:Int),vs=[.int a,.int b,.int bits]∧((0≤a∧a<2^64∧0≤b∧b<2^64∧(bits=32∨bits=64)))∧Q (.int (tZ a b bits)) H
theorem QJ:aI ["a","b","bits"] ["a","b","bits"] (aG (top 24)):=aM
theorem QK (T:Txt P w K mg A):Callee P w K mg base 1 "moved" ["a","b","bits"] (QI K):=by
 refine aT T.xh QJ (fun _ _ _ _ _ _=>Z8 fun _ _ _=>by kernel_rfl) (fun _ _ _ _ h=>?_) (fun _ _ _ _ _ H vs Q E _ h=>?_)
 ·obtain⟨_,_,_,rfl,_⟩:=h
  rfl
 ·obtain⟨a,b,bits,rfl,hp,k⟩:=h
  have kk:∀r,tZ a b bits=r→Q (.int r) H:=fun r e=>e▸k
  refine⟨_,(ak (ay (pv 1))),?_⟩
  try dsimp only[aad]
  refine⟨_,rfl,?_⟩
  exact kk _ rfl
theorem pR (w:Nat):((2^w:Nat):Int)=(2:Int)^w:=by
 rw[Int.natCast_pow];rfl
theorem Dl (w:Nat):bJ (w:Int)=2^w-1:=by
 unfold bJ
 rw[Int.toNat_natCast];lia
theorem HZ (x:Int) (w:Nat):Builtin.bitAnd x (bJ (w:Int))=x%2^w:=by
 rw[Dl]
 exact W.kbt_mask x w
theorem uv (w v:Nat) (hw:1≤w):bB (v:Int) (w:Int)=Path.sgn w v:=by
 unfold bB Path.sgn
 rw[HZ]
 have e1:(((w:Int)-1).toNat)=w-1:=by lia
 rw[e1,Int.toNat_natCast]
 have e2:(v:Int)%2^w=((v%2^w:Nat):Int):=by rw[Int.natCast_emod,pR]
 rw[e2]
 have hp:0<2^(w-1):=Nat.pow_pos (by decide)
 have e3:((v%2^w:Nat):Int)/2^(w-1)=((v%2^w/2^(w-1):Nat):Int):=by rw[Int.natCast_ediv,pR]
 rw[e3]
 by_cases h:v%2^w<2^(w-1)
 ·rw[aPos h,aa]
  rw[Nat.div_eq_of_lt h]
  decide
 ·rw[aa h,aPos]
  ·rw[pR];lia
  ·have h2:0<v%2^w/2^(w-1):=Nat.div_pos (Nat.le_of_not_lt h) hp
   rw[bne_iff_ne]
   exact fun z=>Nat.ne_of_gt h2 (Int.ofNat.inj z)
theorem uw (w v:Nat) (hw:1≤w): -((2^(w-1):Nat):Int)≤Path.sgn w v∧Path.sgn w v<((2^(w-1):Nat):Int):=by
 unfold Path.sgn
 have e:2^w=2*2^(w-1):=by
  have:w=(w-1)+1:=by lia
  rw[this,Nat.pow_succ];simp;lia
 have h1:v%2^w<2^w:=Nat.mod_lt _ (Nat.pow_pos (by decide))
 split<;>lia
theorem Ia {w v:Nat} (hw:1≤w) (h:v<2^w) (z:Path.sgn w v=0):v=0:=by
 unfold Path.sgn at z
 have h1:v%2^w=v:=Nat.mod_eq_of_lt h
 rw[h1]at z
 split at z<;>lia
theorem AG {n bits:Int} (h0:0≤n) (hb:bits=32∨bits=64) (hn:n<2^64) (QL:bits=32→n<2^32): -(2^63)≤bB n bits∧bB n bits<2^63∧(bB n bits=0→n=0):=by
 obtain⟨v,rfl⟩:∃v:Nat,n=(v:Int):=⟨n.toNat,by lia⟩
 rcases hb with rfl|rfl
 ·have e:bB (v:Int) 32=Path.sgn 32 v:=uv 32 v (by decide)
  rw[e]
  have q:=uw 32 v (by decide)
  have h:=QL rfl
  refine⟨by lia,by lia,fun z=>?_⟩
  have:=Ia (w:=32) (by decide) (by lia) z
  lia
 ·have e:bB (v:Int) 64=Path.sgn 64 v:=uv 64 v (by decide)
  rw[e]
  have q:=uw 64 v (by decide)
  refine⟨by lia,by lia,fun z=>?_⟩
  have:=Ia (w:=64) (by decide) (by lia) z
  lia
theorem bits_le {x:Int} (h:x<2^64) (h0:0≤x):((Builtin.Int.intBits x:Nat):Int)≤64:=by
 unfold Builtin.Int.intBits
 split
 ·decide
 ·rename_i hx
  have h1:x.natAbs≠0:=by
   intro z
   apply hx
   rw[beq_iff_eq];lia
  have h2:x.natAbs.log2<64:=(Nat.log2_lt h1).mpr (by lia)
  lia
def QM (K:W.Frag):Sp:=fun vs H Q _=>∃(a:Int) (b:Int) (bits:Int),vs=[.int a,.int b,.int bits]∧((0≤a∧a<2^64∧0≤b∧b<2^64∧(bits=32∨bits=64)∧(bits=32→a<2^32∧b<2^32)))∧Q (.int (kT a b bits)) H
theorem AH:aI ["a","b","bits","upper","lower","quotient"] ["a","b","bits"] (aG (top 15)):=aM
theorem QN (T:Txt P w K mg A):Callee P w K mg base 3 "divided_signed" ["a","b","bits"] (QM K):=by
 refine aT T.wR AH (fun _ _ _ _ _ _=>Z8 fun _ _ _=>by kernel_rfl) (fun _ _ _ _ h=>?_) (fun _ _ _ _ _ H vs Q E hr h=>?_)
 ·obtain⟨_,_,_,rfl,_⟩:=h
  rfl
 ·obtain⟨a,b,bits,rfl,hp,k⟩:=h
  have kk:∀r,kT a b bits=r→Q (.int r) H:=fun r e=>e▸k
  have q1:=AG (n:=a) (bits:=bits) (by lia) (by lia) (by lia) (by lia)
  have q2:=AG (n:=b) (bits:=bits) (by lia) (by lia) (by lia) (by lia)
  refine⟨_,(au (aN (aX (aO (pv 1) aj)) (ak (ay aj)) aP) (au (bg (i:=3) AH.nd rfl (Or.inl rfl) (aE (iL T) (hr.mono (by decide)) (af (pv 0) (af (pv 2) ai)))) (au (bg (i:=4) AH.nd rfl (Or.inl rfl) (aE (iL T) (hr.mono (by decide)) (af (pv 1) (af (pv 2) ai)))) (au (bg (i:=5) AH.nd rfl (Or.inl rfl) (aF pB (bZ vV (by rfl) T.rm boot_abs (af (pv 3) ai)) (bZ vV (by rfl) T.rm boot_abs (af (pv 4) ai)))) (ak (ay (cN (bY jI (c6 iG (pv 3) aj (bz _)) (c6 iG (pv 4) aj (bz _)) (bz _)) (pv 5) (gM gO (pv 5))))))))),?_⟩
  try dsimp only[aad]
  refine⟨_,rfl,_,_,rfl,rfl,_,rfl,?_⟩
  refine ao (fun h1=>?_) (fun h1=>?_)
  ·
   have g1:=aZ h1
   exact kk _ (by simp only[kT,aPos h1])
  ·
   have g1:¬(b=(0:Int)):=fun z=>h1 (bq z)
   refine⟨_,rfl,_,rfl,_,_,rfl,(by first|lia|decide|(split<;>lia)),_,rfl,_,rfl,_,_,rfl,(by first|lia|decide|(split<;>lia)),_,rfl,_,rfl,_,rfl,_,rfl,_,_,rfl,rfl,⟨by first|lia|decide|(split<;>lia),by first|lia|decide|(split<;>lia)⟩,_,rfl,_,_,rfl,rfl,_,rfl,_,_,rfl,rfl,rfl,_,rfl,?_⟩
   refine ao (fun h2=>?_) (fun h2=>?_)
   ·
    have g2:=aZ h2
    refine⟨_,rfl,?_⟩
    exact kk _ (by simp only[kT,aa h1,aPos h2])
   ·
    have g2:¬(V.bl (decide ((bB a bits)<(0:Int)))=V.bl (decide ((bB b bits)<(0:Int)))):=fun z=>h2 (bq z)
    refine⟨_,rfl,_,rfl,?_⟩
    exact kk _ (by simp only[kT,aa h1,aa h2])
def QO (K:W.Frag):Sp:=fun vs H Q _=>∃(a:Int) (b:Int) (bits:Int),vs=[.int a,.int b,.int bits]∧((0≤a∧a<2^64∧0≤b∧b<2^64∧(bits=32∨bits=64)∧(bits=32→a<2^32∧b<2^32)))∧Q (.int (kW a b bits)) H
theorem Dm:aI ["a","b","bits","upper","left"] ["a","b","bits"] (aG (top 16)):=aM
theorem QS (T:Txt P w K mg A):Callee P w K mg base 3 "remainder_signed" ["a","b","bits"] (QO K):=by
 refine aT T.wU Dm (fun _ _ _ _ _ _=>Z8 fun _ _ _=>by kernel_rfl) (fun _ _ _ _ h=>?_) (fun _ _ _ _ _ H vs Q E hr h=>?_)
 ·obtain⟨_,_,_,rfl,_⟩:=h
  rfl
 ·obtain⟨a,b,bits,rfl,hp,k⟩:=h
  have kk:∀r,kW a b bits=r→Q (.int r) H:=fun r e=>e▸k
  have q1:=AG (n:=a) (bits:=bits) (by lia) (by lia) (by lia) (by lia)
  have q2:=AG (n:=b) (bits:=bits) (by lia) (by lia) (by lia) (by lia)
  refine⟨_,(au (aN (aX (aO (pv 1) aj)) (ak (ay (pv 0))) aP) (au (bg (i:=3) Dm.nd rfl (Or.inl rfl) (aE (iL T) (hr.mono (by decide)) (af (pv 0) (af (pv 2) ai)))) (au (bg (i:=4) Dm.nd rfl (Or.inl rfl) (aF g9 (bZ vV (by rfl) T.rm boot_abs (af (pv 3) ai)) (bZ vV (by rfl) T.rm boot_abs (af (aE (iL T) (hr.mono (by decide)) (af (pv 1) (af (pv 2) ai))) ai)))) (ak (ay (cN (bY iG (pv 3) aj (bz _)) (gM gO (pv 4)) (pv 4))))))),?_⟩
  try dsimp only[aad]
  refine⟨_,rfl,_,_,rfl,rfl,_,rfl,?_⟩
  refine ao (fun h1=>?_) (fun h1=>?_)
  ·
   have g1:=aZ h1
   refine⟨_,rfl,?_⟩
   exact kk _ (by simp only[kW,aPos h1])
  ·
   have g1:¬(b=(0:Int)):=fun z=>h1 (bq z)
   refine⟨_,rfl,_,rfl,_,_,rfl,(by first|lia|decide|(split<;>lia)),_,rfl,_,rfl,_,rfl,_,rfl,_,_,rfl,(by first|lia|decide|(split<;>lia)),_,rfl,_,_,rfl,rfl,(by show(0:Int)<_;first|lia|decide|(split<;>lia)),_,rfl,_,_,rfl,rfl,_,rfl,?_⟩
   refine ao (fun h2=>?_) (fun h2=>?_)
   ·
    have g2:=aZ h2
    refine⟨_,rfl,_,rfl,?_⟩
    exact kk _ (by simp only[kW,aa h1,aPos h2])
   ·
    have g2:¬((bB a bits)<(0:Int)):=fun z=>h2 (bq z)
    refine⟨_,rfl,?_⟩
    exact kk _ (by simp only[kW,aa h1,aa h2])
def QT (K:W.Frag):Sp:=fun vs H Q _=>∃(number:Int),vs=[.int number]∧(∀v H',ah H H'→aQ K H' v (pS number)→Q v H')
theorem QU:aI ["number"] ["number"] (aG (top 38)):=aM
theorem AI (T:Txt P w K mg A):Callee P w K mg base 1 "one_number" ["number"] (QT K):=by
 refine aT T.xr QU (fun _ _ _ _ _ _=>Z9 fun _=>by kernel_rfl) (fun _ _ _ _ h=>?_) (fun _ _ _ _ _ H vs Q E _ h=>?_)
 ·obtain⟨_,rfl,_⟩:=h
  rfl
 ·obtain⟨number,rfl,k⟩:=h
  have kk:∀v H' r,pS number=r→ah H H'→aQ K H' v r→Q v H':=fun v H' r e a b=>k v H' a (e▸b)
  refine⟨_,(ak (ay (dP (af (aU T.cP) (af (pv 0) (af (pv 0) ai)))))),?_⟩
  try dsimp only[aad]
  refine⟨_,rfl,_,rfl,_,_,_,rfl,fun v1 H1 s1 f1=>?_⟩
  exact kk _ _ _ rfl s1 f1
def ux (K:W.Frag):Sp:=fun vs H Q _=>∃(bits:Int),vs=[.int bits]∧(0≤bits∧bits≤1000000)∧(∀v H',ah H H'→aQ K H' v (dS bits)→Q v H')
theorem QV:aI ["bits"] ["bits"] (aG (top 39)):=aM
theorem iM (T:Txt P w K mg A):Callee P w K mg base 2 "anything" ["bits"] (ux K):=by
 refine aT T.xu QV (fun _ _ _ _ _ _=>Z9 fun _=>by kernel_rfl) (fun _ _ _ _ h=>?_) (fun _ _ _ _ _ H vs Q E hr h=>?_)
 ·obtain⟨_,rfl,_⟩:=h
  rfl
 ·obtain⟨bits,rfl,hp,k⟩:=h
  have kk:∀v H' r,dS bits=r→ah H H'→aQ K H' v r→Q v H':=fun v H' r e a b=>k v H' a (e▸b)
  refine⟨_,(ak (ay (dP (af (aU T.cP) (af aj (af (aE (gi T) (hr.mono (by decide)) (af (pv 0) ai)) ai)))))),?_⟩
  try dsimp only[aad]
  refine⟨_,rfl,_,rfl,(by first|omega|decide),_,_,_,rfl,fun v1 H1 s1 f1=>?_⟩
  exact kk _ _ _ rfl s1 f1
def QW (K:W.Frag):Sp:=fun vs H Q _=>∃(lo:Int) (hi:Int) (bits:Int),vs=[.int lo,.int hi,.int bits]∧((bits=32∨bits=64))∧(∀v H',ah H H'→aQ K H' v (mE lo hi bits)→Q v H')
theorem QX:aI ["lo","hi","bits"] ["lo","hi","bits"] (aG (top 40)):=aM
theorem Dn (T:Txt P w K mg A):Callee P w K mg base 3 "fitting" ["lo","hi","bits"] (QW K):=by
 refine aT T.xx QX (fun _ _ _ _ _ _=>Z8 fun _ _ _=>by kernel_rfl) (fun _ _ _ _ h=>?_) (fun _ _ _ _ _ H vs Q E hr h=>?_)
 ·obtain⟨_,_,_,rfl,_⟩:=h
  rfl
 ·obtain⟨lo,hi,bits,rfl,hp,k⟩:=h
  have kk:∀v H' r,mE lo hi bits=r→ah H H'→aQ K H' v r→Q v H':=fun v H' r e a b=>k v H' a (e▸b)
  refine⟨_,(ak (ay (cN (bY dD (pv 1) (aE (gi T) (hr.mono (by decide)) (af (pv 2) ai)) (bz _)) (dP (af (aU T.cP) (af (pv 0) (af (pv 1) ai)))) (aE (iM T) (hr.mono (by decide)) (af (pv 2) ai))))),?_⟩
  try dsimp only[aad]
  refine⟨_,rfl,_,rfl,_,rfl,(by first|omega|decide),_,_,rfl,rfl,_,rfl,?_⟩
  refine ao (fun h1=>?_) (fun h1=>?_)
  ·
   refine⟨_,rfl,_,rfl,_,_,_,rfl,fun v1 H1 s1 f1=>?_⟩
   exact kk _ _ _ (by simp only[mE,aPos h1]) s1 f1
  ·
   refine⟨_,rfl,_,rfl,(by first|omega|decide),fun v2 H2 s2 f2=>?_⟩
   exact kk _ _ _ (by simp only[mE,aa h1]) s2 f2
def QY (K:W.Frag):Sp:=fun vs H Q _=>∃(fJ:V) (span:S3),vs=[fJ]∧aQ K H fJ span∧Q (.bl (gj span)) H
theorem QZ:aI ["span"] ["span"] (aG (top 41)):=aM
theorem rE (T:Txt P w K mg A):Callee P w K mg base 1 "is_one_number" ["span"] (QY K):=by
 refine aT T.xy QZ (fun _ _ _ _ _ _=>Z9 fun _=>by kernel_rfl) (fun _ _ _ _ h=>?_) (fun _ _ _ _ _ H vs Q E _ h=>?_)
 ·obtain⟨_,_,rfl,_⟩:=h
  rfl
 ·obtain⟨fJ,span,rfl,fS,k⟩:=h
  have kk:∀r,gj span=r→Q (.bl r) H:=fun r e=>e▸k
  refine⟨_,(ak (ay (bN (bD (aO (dZ (pv 0)) (aU T.cP))) (cC (bD (aO (cU (pv 0)) (d7 (pv 0)))))))),?_⟩
  try dsimp only[aad]
  refine⟨_,rfl,_,fS,_,_,rfl,rfl,_,rfl,?_⟩
  refine ao (fun h1=>?_) (fun h1=>?_)
  ·
   refine⟨_,rfl,_,fS,_,rfl,_,fS,_,_,rfl,rfl,?_⟩
   exact kk _ (by simp only[gj,aPos h1])
  ·
   exact kk _ (by simp only[gj,aa h1])
def Q0 (K:W.Frag):Sp:=fun vs H Q _=>∃(Dq:V) (one:S3) (jT:V) (other:S3),vs=[Dq,jT]∧aQ K H Dq one∧aQ K H jT other∧(∀v H',ah H H'→aQ K H' v (gU one other)→Q v H')
theorem Q2:aI ["one","other"] ["one","other"] (aG (top 42)):=aM
theorem Q3 (T:Txt P w K mg A):Callee P w K mg base 1 "met" ["one","other"] (Q0 K):=by
 refine aT T.xA Q2 (fun _ _ _ _ _ _=>ln2 fun _ _=>by kernel_rfl) (fun _ _ _ _ h=>?_) (fun _ _ _ _ _ H vs Q E hr h=>?_)
 ·obtain⟨_,_,_,_,rfl,_⟩:=h
  rfl
 ·obtain⟨Dq,one,jT,other,rfl,pT,fT,k⟩:=h
  have kk:∀v H' r,gU one other=r→ah H H'→aQ K H' v r→Q v H':=fun v H' r e a b=>k v H' a (e▸b)
  refine⟨_,(au (aN (bY (Nk hr.units) (pv 0) (pv 1) (bz _)) (ak (ay (pv 0))) aP) (au (aN (gq (aX (aO (dZ (pv 0)) (dZ (pv 1)))) (gI (aX (gp (dZ (pv 0)) (aU T.jM))))).pt (ak (ay (dP (af (dZ (pv 0)) (af (bZ (qJ rfl) (by rfl) T.nM boot_min (af (cU (pv 0)) (af (cU (pv 1)) ai))) (af (bZ (qI rfl) (by rfl) T.nL boot_max (af (d7 (pv 0)) (af (d7 (pv 1)) ai))) ai)))))) aP) (ak (ay (cY T.kQ))))),?_⟩
  try dsimp only[aad]
  refine⟨_,rfl,_,rfl,_,_,(HV pT),(HV fT),rfl,rfl,_,rfl,?_⟩
  refine ao (fun h1=>?_) (fun h1=>?_)
  ·
   refine⟨_,rfl,?_⟩
   exact kk _ _ _ (by simp only[gU,aPos h1]) (ah.refl _) pT
  ·
   refine⟨_,rfl,_,pT,_,rfl,_,fT,_,_,rfl,rfl,_,rfl,?_⟩
   refine ao (fun h2=>?_) (fun h2=>?_)
   ·
    refine⟨_,rfl,_,pT,_,_,rfl,rfl,_,rfl,?_⟩
    refine ao (fun h3=>?_) (fun h3=>?_)
    ·
     refine⟨_,rfl,_,pT,_,rfl,_,pT,_,rfl,_,fT,_,_,rfl,_,rfl,_,pT,_,rfl,_,fT,_,_,rfl,_,_,_,rfl,fun v1 H1 s1 f1=>?_⟩
     exact kk _ _ _ (by simp only[gU,aa h1,aPos h2,aPos h3]) s1 f1
    ·
     exact kk _ _ _ (by simp only[gU,aa h1,aPos h2,aa h3]) (ah.refl _) (T.dG _)
   ·
    refine dw ?_
    exact kk _ _ _ (by simp only[gU,aa h1,aa h2]) (ah.refl _) (T.dG _)
def Q4 (K:W.Frag):Sp:=fun vs H Q _=>∃(a:Int) (b:Int) (c:Int) (d:Int) (bits:Int),vs=[.int a,.int b,.int c,.int d,.int bits]∧((0≤a∧a≤b∧b<2^64∧0≤c∧c≤d∧d<2^64∧(bits=32∨bits=64)))∧(∀v H',ah H H'→aQ K H' v (pJ a b c d bits)→Q v H')
theorem Q5:aI ["a","b","c","d","bits"] ["a","b","c","d","bits"] (aG (top 43)):=aM
theorem Q6 (T:Txt P w K mg A):Callee P w K mg base 4 "add_span" ["a","b","c","d","bits"] (Q4 K):=by
 refine aT T.xB Q5 (fun _ _ _ _ _ _=>ln5 fun _ _ _ _ _=>by kernel_rfl) (fun _ _ _ _ h=>?_) (fun _ _ _ _ _ H vs Q E hr h=>?_)
 ·obtain⟨_,_,_,_,_,rfl,_⟩:=h
  rfl
 ·obtain⟨a,b,c,d,bits,rfl,hp,k⟩:=h
  have kk:∀v H' r,pJ a b c d bits=r→ah H H'→aQ K H' v r→Q v H':=fun v H' r e a b=>k v H' a (e▸b)
  refine⟨_,(ak (ay (aE (Dn T) (hr.mono (by decide)) (af (aF bL (pv 0) (pv 2)) (af (aF bL (pv 1) (pv 3)) (af (pv 4) ai)))))),?_⟩
  try dsimp only[aad]
  refine⟨_,rfl,_,rfl,_,_,rfl,rfl,_,rfl,_,rfl,_,_,rfl,rfl,_,rfl,_,_,_,rfl,(by first|omega|decide),fun v1 H1 s1 f1=>?_⟩
  exact kk _ _ _ rfl s1 f1
def Q7 (K:W.Frag):Sp:=fun vs H Q _=>∃(a:Int) (b:Int) (c:Int) (d:Int) (bits:Int),vs=[.int a,.int b,.int c,.int d,.int bits]∧((0≤a∧a≤b∧b<2^64∧0≤c∧c≤d∧d<2^64∧(bits=32∨bits=64)))∧(∀v H',ah H H'→aQ K H' v (l9 a b c d bits)→Q v H')
theorem Q8:aI ["a","b","c","d","bits"] ["a","b","c","d","bits"] (aG (top 44)):=aM
theorem Q9 (T:Txt P w K mg A):Callee P w K mg base 3 "sub_span" ["a","b","c","d","bits"] (Q7 K):=by
 refine aT T.xC Q8 (fun _ _ _ _ _ _=>ln5 fun _ _ _ _ _=>by kernel_rfl) (fun _ _ _ _ h=>?_) (fun _ _ _ _ _ H vs Q E hr h=>?_)
 ·obtain⟨_,_,_,_,_,rfl,_⟩:=h
  rfl
 ·obtain⟨a,b,c,d,bits,rfl,hp,k⟩:=h
  have kk:∀v H' r,l9 a b c d bits=r→ah H H'→aQ K H' v r→Q v H':=fun v H' r e a b=>k v H' a (e▸b)
  refine⟨_,(ak (ay (cN (bY vU (pv 0) (pv 3) (bz _)) (dP (af (aU T.cP) (af (aF fF (pv 0) (pv 3)) (af (aF fF (pv 1) (pv 2)) ai)))) (aE (iM T) (hr.mono (by decide)) (af (pv 4) ai))))),?_⟩
  try dsimp only[aad]
  refine⟨_,rfl,_,rfl,_,_,rfl,rfl,_,rfl,?_⟩
  refine ao (fun h1=>?_) (fun h1=>?_)
  ·
   refine⟨_,rfl,_,rfl,_,_,rfl,rfl,_,rfl,_,rfl,_,_,rfl,rfl,_,_,_,rfl,fun v1 H1 s1 f1=>?_⟩
   exact kk _ _ _ (by simp only[l9,aPos h1]) s1 f1
  ·
   refine⟨_,rfl,_,rfl,(by first|omega|decide),fun v2 H2 s2 f2=>?_⟩
   exact kk _ _ _ (by simp only[l9,aa h1]) s2 f2
def Ra (K:W.Frag):Sp:=fun vs H Q _=>∃(a:Int) (b:Int) (c:Int) (d:Int) (bits:Int),vs=[.int a,.int b,.int c,.int d,.int bits]∧((0≤a∧a≤b∧b<2^64∧0≤c∧c≤d∧d<2^64∧(bits=32∨bits=64)))∧(∀v H',ah H H'→aQ K H' v (pL a b c d bits)→Q v H')
theorem Rb:aI ["a","b","c","d","bits"] ["a","b","c","d","bits"] (aG (top 45)):=aM
theorem Rc (T:Txt P w K mg A):Callee P w K mg base 4 "mul_span" ["a","b","c","d","bits"] (Ra K):=by
 refine aT T.xD Rb (fun _ _ _ _ _ _=>ln5 fun _ _ _ _ _=>by kernel_rfl) (fun _ _ _ _ h=>?_) (fun _ _ _ _ _ H vs Q E hr h=>?_)
 ·obtain⟨_,_,_,_,_,rfl,_⟩:=h
  rfl
 ·obtain⟨a,b,c,d,bits,rfl,hp,k⟩:=h
  have kk:∀v H' r,pL a b c d bits=r→ah H H'→aQ K H' v r→Q v H':=fun v H' r e a b=>k v H' a (e▸b)
  refine⟨_,(ak (ay (aE (Dn T) (hr.mono (by decide)) (af (aF iF (pv 0) (pv 2)) (af (aF iF (pv 1) (pv 3)) (af (pv 4) ai)))))),?_⟩
  try dsimp only[aad]
  refine⟨_,rfl,_,rfl,_,_,rfl,rfl,(by first|exact Or.inl ⟨by first|omega|decide,by first|omega|decide⟩|exact Or.inr ⟨by first|omega|decide,by first|omega|decide⟩),_,rfl,_,rfl,_,_,rfl,rfl,(by first|exact Or.inl ⟨by first|omega|decide,by first|omega|decide⟩|exact Or.inr ⟨by first|omega|decide,by first|omega|decide⟩),_,rfl,_,_,_,rfl,(by first|omega|decide),fun v1 H1 s1 f1=>?_⟩
  exact kk _ _ _ rfl s1 f1
def Rf (K:W.Frag):Sp:=fun vs H Q _=>∃(a:Int) (b:Int) (c:Int) (d:Int) (bits:Int),vs=[.int a,.int b,.int c,.int d,.int bits]∧((0≤a∧a≤b∧b<2^64∧0≤c∧c≤d∧d<2^64∧(bits=32∨bits=64)))∧(∀v H',ah H H'→aQ K H' v (lV a b c d bits)→Q v H')
theorem Rg:aI ["a","b","c","d","bits"] ["a","b","c","d","bits"] (aG (top 46)):=aM
theorem Rh (T:Txt P w K mg A):Callee P w K mg base 1 "div_span" ["a","b","c","d","bits"] (Rf K):=by
 refine aT T.xE Rg (fun _ _ _ _ _ _=>ln5 fun _ _ _ _ _=>by kernel_rfl) (fun _ _ _ _ h=>?_) (fun _ _ _ _ _ H vs Q E _ h=>?_)
 ·obtain⟨_,_,_,_,_,rfl,_⟩:=h
  rfl
 ·obtain⟨a,b,c,d,bits,rfl,hp,k⟩:=h
  have kk:∀v H' r,lV a b c d bits=r→ah H H'→aQ K H' v r→Q v H':=fun v H' r e a b=>k v H' a (e▸b)
  refine⟨_,(ak (ay (cN (bY ny (pv 2) aj (bz _)) (dP (af (aU T.cP) (af (aF pB (pv 0) (pv 3)) (af (aF pB (pv 1) (pv 2)) ai)))) (dP (af (aU T.cP) (af aj (af (pv 1) ai))))))),?_⟩
  try dsimp only[aad]
  refine⟨_,rfl,_,_,rfl,rfl,_,rfl,?_⟩
  refine ao (fun h1=>?_) (fun h1=>?_)
  ·
   have g1:=aZ h1
   refine⟨_,rfl,_,rfl,_,_,rfl,rfl,⟨by first|omega|decide,by first|omega|decide⟩,_,rfl,_,rfl,_,_,rfl,rfl,⟨by first|omega|decide,by first|omega|decide⟩,_,_,_,rfl,fun v1 H1 s1 f1=>?_⟩
   exact kk _ _ _ (by simp only[lV,aPos h1]) s1 f1
  ·
   have g1:¬((0:Int)<c):=fun z=>h1 (bq z)
   refine⟨_,rfl,_,_,_,rfl,fun v2 H2 s2 f2=>?_⟩
   exact kk _ _ _ (by simp only[lV,aa h1]) s2 f2
def Ri (K:W.Frag):Sp:=fun vs H Q _=>∃(a:Int) (b:Int) (c:Int) (d:Int) (bits:Int),vs=[.int a,.int b,.int c,.int d,.int bits]∧((0≤a∧a≤b∧b<2^64∧0≤c∧c≤d∧d<2^64∧(bits=32∨bits=64)))∧(∀v H',ah H H'→aQ K H' v (kU a b c d bits)→Q v H')
theorem Rj:aI ["a","b","c","d","bits"] ["a","b","c","d","bits"] (aG (top 47)):=aM
theorem Rk (T:Txt P w K mg A):Callee P w K mg base 1 "mod_span" ["a","b","c","d","bits"] (Ri K):=by
 refine aT T.xF Rj (fun _ _ _ _ _ _=>ln5 fun _ _ _ _ _=>by kernel_rfl) (fun _ _ _ _ h=>?_) (fun _ _ _ _ _ H vs Q E _ h=>?_)
 ·obtain⟨_,_,_,_,_,rfl,_⟩:=h
  rfl
 ·obtain⟨a,b,c,d,bits,rfl,hp,k⟩:=h
  have kk:∀v H' r,kU a b c d bits=r→ah H H'→aQ K H' v r→Q v H':=fun v H' r e a b=>k v H' a (e▸b)
  refine⟨_,(au (aN (aX (aO (pv 2) aj)) (ak (ay (dP (af (aU T.cP) (af aj (af (pv 1) ai)))))) aP) (ak (ay (cN (bY iG (pv 1) (pv 2) (bz _)) (dP (af (aU T.cP) (af (pv 0) (af (pv 1) ai)))) (dP (af (aU T.cP) (af aj (af (bZ (qJ rfl) (by rfl) T.nM boot_min (af (pv 1) (af (aF fF (pv 3) aj) ai))) ai)))))))),?_⟩
  try dsimp only[aad]
  refine⟨_,rfl,_,_,rfl,rfl,_,rfl,?_⟩
  refine ao (fun h1=>?_) (fun h1=>?_)
  ·
   refine⟨_,rfl,_,_,_,rfl,fun v1 H1 s1 f1=>?_⟩
   exact kk _ _ _ (by simp only[kU,aPos h1]) s1 f1
  ·
   refine⟨_,rfl,_,rfl,_,_,rfl,rfl,_,rfl,?_⟩
   refine ao (fun h2=>?_) (fun h2=>?_)
   ·
    refine⟨_,rfl,_,rfl,_,_,_,rfl,fun v2 H2 s2 f2=>?_⟩
    exact kk _ _ _ (by simp only[kU,aa h1,aPos h2]) s2 f2
   ·
    refine⟨_,rfl,_,rfl,_,_,rfl,rfl,_,_,rfl,_,_,_,rfl,fun v3 H3 s3 f3=>?_⟩
    exact kk _ _ _ (by simp only[kU,aa h1,aa h2]) s3 f3
def Rl (K:W.Frag):Sp:=fun vs H Q _=>∃(a:Int) (b:Int) (c:Int) (d:Int) (bits:Int),vs=[.int a,.int b,.int c,.int d,.int bits]∧((0≤a∧a≤b∧b<2^64∧0≤c∧c≤d∧d<2^64∧(bits=32∨bits=64)))∧(∀v H',ah H H'→aQ K H' v (pK a b c d bits)→Q v H')
theorem Rm:aI ["a","b","c","d","bits"] ["a","b","c","d","bits"] (aG (top 48)):=aM
theorem Rn (T:Txt P w K mg A):Callee P w K mg base 1 "and_span" ["a","b","c","d","bits"] (Rl K):=by
 refine aT T.xG Rm (fun _ _ _ _ _ _=>ln5 fun _ _ _ _ _=>by kernel_rfl) (fun _ _ _ _ h=>?_) (fun _ _ _ _ _ H vs Q E _ h=>?_)
 ·obtain⟨_,_,_,_,_,rfl,_⟩:=h
  rfl
 ·obtain⟨a,b,c,d,bits,rfl,hp,k⟩:=h
  have kk:∀v H' r,pK a b c d bits=r→ah H H'→aQ K H' v r→Q v H':=fun v H' r e a b=>k v H' a (e▸b)
  refine⟨_,(ak (ay (dP (af (aU T.cP) (af aj (af (bZ (qJ rfl) (by rfl) T.nM boot_min (af (pv 1) (af (pv 3) ai))) ai)))))),?_⟩
  try dsimp only[aad]
  refine⟨_,rfl,_,rfl,_,_,rfl,_,_,_,rfl,fun v1 H1 s1 f1=>?_⟩
  exact kk _ _ _ rfl s1 f1
def Ro (K:W.Frag):Sp:=fun vs H Q _=>∃(a:Int) (b:Int) (c:Int) (d:Int) (bits:Int),vs=[.int a,.int b,.int c,.int d,.int bits]∧((0≤a∧a≤b∧b<2^64∧0≤c∧c≤d∧d<2^64∧(bits=32∨bits=64)))∧(∀v H',ah H H'→aQ K H' v (jP a b c d bits)→Q v H')
theorem Rp:aI ["a","b","c","d","bits"] ["a","b","c","d","bits"] (aG (top 49)):=aM
theorem Ib (T:Txt P w K mg A):Callee P w K mg base 3 "or_span" ["a","b","c","d","bits"] (Ro K):=by
 refine aT T.xH Rp (fun _ _ _ _ _ _=>ln5 fun _ _ _ _ _=>by kernel_rfl) (fun _ _ _ _ h=>?_) (fun _ _ _ _ _ H vs Q E hr h=>?_)
 ·obtain⟨_,_,_,_,_,rfl,_⟩:=h
  rfl
 ·obtain⟨a,b,c,d,bits,rfl,hp,k⟩:=h
  have kk:∀v H' r,jP a b c d bits=r→ah H H'→aQ K H' v r→Q v H':=fun v H' r e a b=>k v H' a (e▸b)
  refine⟨_,(ak (ay (aE (iM T) (hr.mono (by decide)) (af (Nc PySem.F.plainAttrs_int PySem.F.slot_int_bit_length PySem.F.type_int_bit_length Oe (bZ (qI rfl) (by rfl) T.nL boot_max (af (pv 1) (af (pv 3) ai)))) ai)))),?_⟩
  try dsimp only[aad]
  refine⟨_,rfl,_,rfl,_,_,rfl,rfl,_,rfl,rfl,_,rfl,(by(have q:=Int.ofNat_nonneg (Builtin.Int.intBits (if d>b then d else b));have q2:=bits_le (show(if d>b then d else b)<2^64 by split<;>omega) (show 0≤(if d>b then d else b) by split<;>omega);omega)),fun v1 H1 s1 f1=>?_⟩
  exact kk _ _ _ rfl s1 f1
def Rq (K:W.Frag):Sp:=fun vs H Q _=>∃(a:Int) (b:Int) (c:Int) (d:Int) (bits:Int),vs=[.int a,.int b,.int c,.int d,.int bits]∧((0≤a∧a≤b∧b<2^64∧0≤c∧c≤d∧d<2^64∧(bits=32∨bits=64)))∧(∀v H',ah H H'→aQ K H' v (lY a b c d bits)→Q v H')
theorem Rr:aI ["a","b","c","d","bits"] ["a","b","c","d","bits"] (aG (top 50)):=aM
theorem Rt (T:Txt P w K mg A):Callee P w K mg base 4 "left_span" ["a","b","c","d","bits"] (Rq K):=by
 refine aT T.xJ Rr (fun _ _ _ _ _ _=>ln5 fun _ _ _ _ _=>by kernel_rfl) (fun _ _ _ _ h=>?_) (fun _ _ _ _ _ H vs Q E hr h=>?_)
 ·obtain⟨_,_,_,_,_,rfl,_⟩:=h
  rfl
 ·obtain⟨a,b,c,d,bits,rfl,hp,k⟩:=h
  have kk:∀v H' r,lY a b c d bits=r→ah H H'→aQ K H' v r→Q v H':=fun v H' r e a b=>k v H' a (e▸b)
  have q1:=Int.emod_nonneg c (show bits≠0 by omega)
  have q2:=Int.emod_lt_of_pos c (show 0<bits by omega)
  refine⟨_,(au (aN (aX (gp (pv 2) (pv 3))) (ak (ay (aE (iM T) (hr.mono (by decide)) (af (pv 4) ai)))) aP) (ak (ay (aE (Dn T) (hr.mono (by decide)) (af (aF jb (pv 0) (aF g9 (pv 2) (pv 4))) (af (aF jb (pv 1) (aF g9 (pv 2) (pv 4))) (af (pv 4) ai))))))),?_⟩
  try dsimp only[aad]
  refine⟨_,rfl,_,rfl,_,_,rfl,rfl,_,rfl,?_⟩
  refine ao (fun h1=>?_) (fun h1=>?_)
  ·
   refine⟨_,rfl,_,rfl,(by first|omega|decide),fun v1 H1 s1 f1=>?_⟩
   exact kk _ _ _ (by simp only[lY,aPos h1]) s1 f1
  ·
   refine⟨_,rfl,_,rfl,_,rfl,_,_,rfl,rfl,(by show(0:Int)<_;first|omega|decide),_,_,rfl,rfl,⟨by first|omega|decide,by first|omega|decide,by first|omega|decide⟩,_,rfl,_,rfl,_,rfl,_,_,rfl,rfl,(by show(0:Int)<_;first|omega|decide),_,_,rfl,rfl,⟨by first|omega|decide,by first|omega|decide,by first|omega|decide⟩,_,rfl,_,_,_,rfl,(by first|omega|decide),fun v2 H2 s2 f2=>?_⟩
   exact kk _ _ _ (by simp only[lY,aa h1]) s2 f2
def Ru (K:W.Frag):Sp:=fun vs H Q _=>∃(a:Int) (b:Int) (c:Int) (d:Int) (bits:Int),vs=[.int a,.int b,.int c,.int d,.int bits]∧((0≤a∧a≤b∧b<2^64∧0≤c∧c≤d∧d<2^64∧(bits=32∨bits=64)))∧(∀v H',ah H H'→aQ K H' v (jQ a b c d bits)→Q v H')
theorem Rv:aI ["a","b","c","d","bits"] ["a","b","c","d","bits"] (aG (top 51)):=aM
theorem Ic (T:Txt P w K mg A):Callee P w K mg base 3 "right_span" ["a","b","c","d","bits"] (Ru K):=by
 refine aT T.xK Rv (fun _ _ _ _ _ _=>ln5 fun _ _ _ _ _=>by kernel_rfl) (fun _ _ _ _ h=>?_) (fun _ _ _ _ _ H vs Q E hr h=>?_)
 ·obtain⟨_,_,_,_,_,rfl,_⟩:=h
  rfl
 ·obtain⟨a,b,c,d,bits,rfl,hp,k⟩:=h
  have kk:∀v H' r,jQ a b c d bits=r→ah H H'→aQ K H' v r→Q v H':=fun v H' r e a b=>k v H' a (e▸b)
  have q1:=Int.emod_nonneg c (show bits≠0 by omega)
  have q2:=Int.emod_lt_of_pos c (show 0<bits by omega)
  refine⟨_,(au (aN (aX (gp (pv 2) (pv 3))) (ak (ay (aE (iM T) (hr.mono (by decide)) (af (pv 4) ai)))) aP) (ak (ay (dP (af (aU T.cP) (af (aF lK (pv 0) (aF g9 (pv 2) (pv 4))) (af (aF lK (pv 1) (aF g9 (pv 2) (pv 4))) ai))))))),?_⟩
  try dsimp only[aad]
  refine⟨_,rfl,_,rfl,_,_,rfl,rfl,_,rfl,?_⟩
  refine ao (fun h1=>?_) (fun h1=>?_)
  ·
   refine⟨_,rfl,_,rfl,(by first|omega|decide),fun v1 H1 s1 f1=>?_⟩
   exact kk _ _ _ (by simp only[jQ,aPos h1]) s1 f1
  ·
   refine⟨_,rfl,_,rfl,_,rfl,_,_,rfl,rfl,(by show(0:Int)<_;first|omega|decide),_,_,rfl,rfl,(by show(0:Int)≤_;first|omega|decide),_,rfl,_,rfl,_,rfl,_,_,rfl,rfl,(by show(0:Int)<_;first|omega|decide),_,_,rfl,rfl,(by show(0:Int)≤_;first|omega|decide),_,_,_,rfl,fun v2 H2 s2 f2=>?_⟩
   exact kk _ _ _ (by simp only[jQ,aa h1]) s2 f2
def Rw (K:W.Frag):Sp:=fun vs H Q _=>∃(a:Int) (b:Int) (c:Int) (d:Int) (bits:Int),vs=[.int a,.int b,.int c,.int d,.int bits]∧((0≤a∧a≤b∧b<2^64∧0≤c∧c≤d∧d<2^64∧(bits=32∨bits=64)))∧(∀v H',ah H H'→aQ K H' v (l7 a b c d bits)→Q v H')
theorem Rx:aI ["a","b","c","d","bits"] ["a","b","c","d","bits"] (aG (top 52)):=aM
theorem Ry (T:Txt P w K mg A):Callee P w K mg base 4 "right_signed_span" ["a","b","c","d","bits"] (Rw K):=by
 refine aT T.xM Rx (fun _ _ _ _ _ _=>ln5 fun _ _ _ _ _=>by kernel_rfl) (fun _ _ _ _ h=>?_) (fun _ _ _ _ _ H vs Q E hr h=>?_)
 ·obtain⟨_,_,_,_,_,rfl,_⟩:=h
  rfl
 ·obtain⟨a,b,c,d,bits,rfl,hp,k⟩:=h
  have kk:∀v H' r,l7 a b c d bits=r→ah H H'→aQ K H' v r→Q v H':=fun v H' r e a b=>k v H' a (e▸b)
  have q1:=Int.emod_nonneg c (show bits≠0 by omega)
  have q2:=Int.emod_lt_of_pos c (show 0<bits by omega)
  refine⟨_,(ak (ay (cN (bY dD (pv 1) (aE (gi T) (hr.mono (by decide)) (af (aF fF (pv 4) aj) ai)) (bz _)) (aE (Ic T) (hr.mono (by decide)) (af (pv 0) (af (pv 1) (af (pv 2) (af (pv 3) (af (pv 4) ai)))))) (aE (iM T) (hr.mono (by decide)) (af (pv 4) ai))))),?_⟩
  try dsimp only[aad]
  refine⟨_,rfl,_,rfl,_,_,rfl,rfl,_,rfl,(by first|omega|decide),_,_,rfl,rfl,_,rfl,?_⟩
  refine ao (fun h1=>?_) (fun h1=>?_)
  ·
   refine⟨_,rfl,_,rfl,_,rfl,_,rfl,_,rfl,_,_,_,_,_,rfl,(by first|omega|decide),fun v1 H1 s1 f1=>?_⟩
   exact kk _ _ _ (by simp only[l7,aPos h1]) s1 f1
  ·
   refine⟨_,rfl,_,rfl,(by first|omega|decide),fun v2 H2 s2 f2=>?_⟩
   exact kk _ _ _ (by simp only[l7,aa h1]) s2 f2
theorem pU (ins:Insn):cM ins=32∨cM ins=64:=by
 unfold cM
 split<;>simp
theorem nU (i:Insn):i.size=1∨i.size=2∨i.size=4∨i.size=8:=by
 unfold Insn.size
 have h:i.code/8%4<4:=Nat.mod_lt _ (by decide)
 generalize i.code/8%4=n at h
 match n,h with
 |0,_=>simp
 |1,_=>simp
 |2,_=>simp
 |3,_=>simp
theorem Ie {κ:Type} [DecidableEq κ] {kvs:List (κ×V)} {k:κ} {v:V} (h:c8 kvs k=some v):∃p∈kvs,p.2=v:=by
 unfold c8 at h
 obtain⟨p,h1,h2⟩:=Option.map_eq_some_iff.mp h
 exact⟨p,List.mem_of_find?_eq_some h1,h2⟩
theorem kZ {x:Int} (h:(c8 iJ (Sum.inl x)).isSome=true):c8 iJ (Sum.inl x)=some (.str (pV x)):=by
 obtain⟨v,hv⟩:=Option.isSome_iff_exists.mp h
 obtain⟨p,hp,e⟩:=Ie hv
 have hs:∃z,v= .str z:=by
  subst e
  simp only[iJ,List.mem_cons,List.not_mem_nil,or_false]at hp
  rcases hp with rfl|rfl|rfl|rfl|rfl|rfl|rfl|rfl|rfl|rfl<;>exact⟨_,rfl⟩
 obtain⟨z,rfl⟩:=hs
 unfold pV
 rw[hv]
def Rz (K:W.Frag):Sp:=fun vs H Q _=>∃(aA:V) (ins:Insn) (cu:V) (x:S3),vs=[aA,cu]∧bf K H aA ins∧aQ K H cu x∧(0≤ins.off∧ins.off≤64)∧(∀v H',ah H H'→aQ K H' v (mF ins x)→Q v H')
theorem Ig:aI ["ins","x","is_kept"] ["ins","x"] (aG (top 55)):=aM
theorem RB (T:Txt P w K mg A):Callee P w K mg base 3 "moved_span" ["ins","x"] (Rz K):=by
 refine aT T.xO Ig (fun _ _ _ _ _ _=>ln2 fun _ _=>by kernel_rfl) (fun _ _ _ _ h=>?_) (fun _ _ _ _ _ H vs Q E hr h=>?_)
 ·obtain⟨_,_,_,_,rfl,_⟩:=h
  rfl
 ·obtain⟨aA,ins,cu,x,rfl,aq,bG,hp,k⟩:=h
  have kk:∀v H' r,mF ins x=r→ah H H'→aQ K H' v r→Q v H':=fun v H' r e a b=>k v H' a (e▸b)
  have qw:=pU ins
  refine⟨_,(au (aN (aX (aO (az (pv 0)) aj)) (ak (ay (pv 1))) aP) (au (bg (i:=2) Ig.nd rfl (Or.inl rfl) (bN (bD (aO (dZ (pv 1)) (aU T.cP))) (cC (c6 dD (d7 (pv 1)) (aE (gi T) (hr.mono (by decide)) (af (aF fF (az (pv 0)) aj) ai)) (bz _))))) (ak (ay (cN (bI (pv 2) (fun _=>rfl)) (pv 1) (aE (iM T) (hr.mono (by decide)) (af (aE (nT T) (hr.mono (by decide)) (af (pv 0) ai)) ai))))))),?_⟩
  try dsimp only[aad]
  refine⟨_,rfl,_,aq.dz,_,_,rfl,rfl,_,rfl,?_⟩
  refine ao (fun h1=>?_) (fun h1=>?_)
  ·
   have g1:=aZ h1
   refine⟨_,rfl,?_⟩
   exact kk _ _ _ (by simp only[mF,aPos h1,aB,aD,aC]) (ah.refl _) bG
  ·
   have g1:¬(ins.off=(0:Int)):=fun z=>h1 (bq z)
   refine⟨_,rfl,_,bG,_,_,rfl,rfl,_,rfl,?_⟩
   refine ao (fun h2=>?_) (fun h2=>?_)
   ·
    have g2:=aZ h2
    refine⟨_,rfl,_,bG,_,rfl,_,aq.dz,_,_,rfl,rfl,_,rfl,(by first|lia|decide),_,_,rfl,rfl,_,rfl,_,rfl,?_⟩
    refine ao (fun h3=>?_) (fun h3=>?_)
    ·
     have g3:=aZ h3
     refine⟨_,rfl,?_⟩
     exact kk _ _ _ (by simp only[mF,aa h1,aPos h2,aPos h3,aB,aD,aC]) (ah.refl _) bG
    ·
     have g3:¬(x.2.2≤(bJ (ins.off-(1:Int)))):=fun z=>h3 (bq z)
     refine⟨_,rfl,_,_,rfl,aq,_,rfl,(by first|lia|decide),fun v1 H1 s1 f1=>?_⟩
     exact kk _ _ _ (by simp only[mF,aa h1,aPos h2,aa h3,aB,aD,aC]) s1 f1
   ·
    have g2:¬(x.1=(0:Int)):=fun z=>h2 (bq z)
    refine⟨_,rfl,_,rfl,?_⟩
    refine dw ?_
    refine⟨_,rfl,_,_,rfl,aq,_,rfl,(by first|lia|decide),fun v2 H2 s2 f2=>?_⟩
    exact kk _ _ _ (by simp only[mF,aa h1,aa h2,aB,aD,aC]) s2 f2
def RC (K:W.Frag):Sp:=fun vs H Q _=>∃(fK:V) (address:S3) (pW:V) (number:S3),vs=[fK,pW]∧aQ K H fK address∧aQ K H pW number∧(∀v H',ah H H'→aQ K H' v (mG address number)→Q v H')
theorem Ih:aI ["address","number","hi"] ["address","number"] (aG (top 56)):=aM
theorem Ii (T:Txt P w K mg A):Callee P w K mg base 1 "data_plus" ["address","number"] (RC K):=by
 refine aT T.xP Ih (fun _ _ _ _ _ _=>ln2 fun _ _=>by kernel_rfl) (fun _ _ _ _ h=>?_) (fun _ _ _ _ _ H vs Q E _ h=>?_)
 ·obtain⟨_,_,_,_,rfl,_⟩:=h
  rfl
 ·obtain⟨fK,address,pW,number,rfl,fU,rF,k⟩:=h
  have kk:∀v H' r,mG address number=r→ah H H'→aQ K H' v r→Q v H':=fun v H' r e a b=>k v H' a (e▸b)
  refine⟨_,(au (bg (i:=2) Ih.nd rfl (Or.inl rfl) (aF bL (d7 (pv 0)) (d7 (pv 1)))) (ak (ay (cN (bY dD (pv 2) (aU T.zx) (bz _)) (dP (af (aU T.kP) (af (aF bL (cU (pv 0)) (cU (pv 1))) (af (pv 2) ai)))) (cY T.kQ))))),?_⟩
  try dsimp only[aad]
  refine⟨_,rfl,_,fU,_,rfl,_,rF,_,_,rfl,rfl,_,rfl,_,_,rfl,rfl,_,rfl,?_⟩
  refine ao (fun h1=>?_) (fun h1=>?_)
  ·
   refine⟨_,rfl,_,fU,_,rfl,_,rF,_,_,rfl,rfl,_,rfl,_,_,_,rfl,fun v1 H1 s1 f1=>?_⟩
   exact kk _ _ _ (by simp only[mG,aPos h1,aB,aD,aC]) s1 f1
  ·
   exact kk _ _ _ (by simp only[mG,aa h1,aB,aD,aC]) (ah.refl _) (T.dG _)
def RD (K:W.Frag):Sp:=fun vs H Q _=>∃(fK:V) (address:S3) (pW:V) (number:S3),vs=[fK,pW]∧aQ K H fK address∧aQ K H pW number∧(∀v H',ah H H'→aQ K H' v (pX address number)→Q v H')
theorem RE:aI ["address","number"] ["address","number"] (aG (top 57)):=aM
theorem RG (T:Txt P w K mg A):Callee P w K mg base 1 "data_less" ["address","number"] (RD K):=by
 refine aT T.xQ RE (fun _ _ _ _ _ _=>ln2 fun _ _=>by kernel_rfl) (fun _ _ _ _ h=>?_) (fun _ _ _ _ _ H vs Q E _ h=>?_)
 ·obtain⟨_,_,_,_,rfl,_⟩:=h
  rfl
 ·obtain⟨fK,address,pW,number,rfl,fU,rF,k⟩:=h
  have kk:∀v H' r,pX address number=r→ah H H'→aQ K H' v r→Q v H':=fun v H' r e a b=>k v H' a (e▸b)
  refine⟨_,(au (aN (bY iG (cU (pv 0)) (d7 (pv 1)) (bz _)) (ak (ay (cY T.kQ))) aP) (ak (ay (dP (af (aU T.kP) (af (aF fF (cU (pv 0)) (d7 (pv 1))) (af (aF fF (d7 (pv 0)) (cU (pv 1))) ai))))))),?_⟩
  try dsimp only[aad]
  refine⟨_,rfl,_,fU,_,rfl,_,rF,_,_,rfl,rfl,_,rfl,?_⟩
  refine ao (fun h1=>?_) (fun h1=>?_)
  ·
   exact kk _ _ _ (by simp only[pX,aPos h1,aB,aD,aC]) (ah.refl _) (T.dG _)
  ·
   refine⟨_,rfl,_,fU,_,rfl,_,rF,_,_,rfl,rfl,_,rfl,_,fU,_,rfl,_,rF,_,_,rfl,rfl,_,_,_,rfl,fun v1 H1 s1 f1=>?_⟩
   exact kk _ _ _ (by simp only[pX,aa h1,aB,aD,aC]) s1 f1
def RH (K:W.Frag):Sp:=fun vs H Q _=>∃(place:Int),vs=[.int place]∧(∀v H',ah H H'→aQ K H' v (gV place)→Q v H')
theorem RJ:aI ["place"] ["place"] (aG (top 58)):=aM
theorem Ij (T:Txt P w K mg A):Callee P w K mg base 1 "stack_at" ["place"] (RH K):=by
 refine aT T.xR RJ (fun _ _ _ _ _ _=>Z9 fun _=>by kernel_rfl) (fun _ _ _ _ h=>?_) (fun _ _ _ _ _ H vs Q E _ h=>?_)
 ·obtain⟨_,rfl,_⟩:=h
  rfl
 ·obtain⟨place,rfl,k⟩:=h
  have kk:∀v H' r,gV place=r→ah H H'→aQ K H' v r→Q v H':=fun v H' r e a b=>k v H' a (e▸b)
  refine⟨_,(ak (ay (cN (sM dD dD aj (pv 0) (aU T.lU)) (dP (af (aU T.jM) (af (pv 0) (af (pv 0) ai)))) (cY T.kQ)))),?_⟩
  try dsimp only[aad]
  refine⟨_,rfl,_,_,rfl,rfl,_,rfl,?_⟩
  refine ao (fun h1=>?_) (fun h1=>?_)
  ·
   refine⟨_,_,rfl,rfl,_,rfl,?_⟩
   refine ao (fun h2=>?_) (fun h2=>?_)
   ·
    refine⟨_,rfl,_,rfl,_,_,_,rfl,fun v1 H1 s1 f1=>?_⟩
    exact kk _ _ _ (by simp only[gV,aPos h1,aPos h2,aB,aD,aC]) s1 f1
   ·
    exact kk _ _ _ (by simp only[gV,aPos h1,aa h2,aB,aD,aC]) (ah.refl _) (T.dG _)
  ·
   refine⟨_,rfl,?_⟩
   refine dw ?_
   exact kk _ _ _ (by simp only[gV,aa h1,aB,aD,aC]) (ah.refl _) (T.dG _)
def RK (K:W.Frag):Sp:=fun vs H Q _=>∃(dh:V) (dst:S3) (cu:V) (x:S3),vs=[dh,cu]∧aQ K H dh dst∧aQ K H cu x∧(∀v H',ah H H'→aQ K H' v (fh dst x)→Q v H')
theorem RM:aI ["dst","x"] ["dst","x"] (aG (top 59)):=aM
theorem RN (T:Txt P w K mg A):Callee P w K mg base 3 "sum_span" ["dst","x"] (RK K):=by
 refine aT T.xS RM (fun _ _ _ _ _ _=>ln2 fun _ _=>by kernel_rfl) (fun _ _ _ _ h=>?_) (fun _ _ _ _ _ H vs Q E hr h=>?_)
 ·obtain⟨_,_,_,_,rfl,_⟩:=h
  rfl
 ·obtain⟨dh,dst,cu,x,rfl,bA,bG,k⟩:=h
  have kk:∀v H' r,fh dst x=r→ah H H'→aQ K H' v r→Q v H':=fun v H' r e a b=>k v H' a (e▸b)
  refine⟨_,(au (aN (gq (aX (aO (dZ (pv 0)) (aU T.kP))) (gI (aX (aO (dZ (pv 1)) (aU T.cP))))).pt (ak (ay (aE (Ii T) (hr.mono (by decide)) (af (pv 0) (af (pv 1) ai))))) aP) (au (aN (gq (aX (aO (dZ (pv 0)) (aU T.cP))) (gI (aX (aO (dZ (pv 1)) (aU T.kP))))).pt (ak (ay (aE (Ii T) (hr.mono (by decide)) (af (pv 1) (af (pv 0) ai))))) aP) (au (aN (gq (aX (aO (dZ (pv 0)) (aU T.jM))) (gI (bI (aE (rE T) (hr.mono (by decide)) (af (pv 1) ai)) (fun _=>rfl)))).pt (ak (ay (aE (Ij T) (hr.mono (by decide)) (af (aF bL (cU (pv 0)) (aE (iL T) (hr.mono (by decide)) (af (cU (pv 1)) (af aj ai)))) ai)))) aP) (ak (ay (cY T.kQ)))))),?_⟩
  try dsimp only[aad]
  refine⟨_,rfl,_,bA,_,_,rfl,rfl,_,rfl,?_⟩
  refine ao (fun h1=>?_) (fun h1=>?_)
  ·
   refine⟨_,rfl,_,bG,_,_,rfl,rfl,_,rfl,?_⟩
   refine ao (fun h2=>?_) (fun h2=>?_)
   ·
    refine⟨_,rfl,_,rfl,_,_,_,_,rfl,bA,bG,fun v1 H1 s1 f1=>?_⟩
    exact kk _ _ _ (by simp only[fh,aPos h1,aPos h2,aB,aD,aC]) s1 f1
   ·
    refine⟨_,rfl,_,bA,_,_,rfl,rfl,_,rfl,?_⟩
    refine ao (fun h3=>?_) (fun h3=>?_)
    ·
     refine⟨_,rfl,_,bG,_,_,rfl,rfl,_,rfl,?_⟩
     refine ao (fun h4=>?_) (fun h4=>?_)
     ·
      refine⟨_,rfl,_,rfl,_,_,_,_,rfl,bG,bA,fun v2 H2 s2 f2=>?_⟩
      exact kk _ _ _ (by simp only[fh,aPos h1,aa h2,aPos h3,aPos h4,aB,aD,aC]) s2 f2
     ·
      refine⟨_,rfl,_,bA,_,_,rfl,rfl,_,rfl,?_⟩
      refine ao (fun h5=>?_) (fun h5=>?_)
      ·
       refine⟨_,rfl,_,_,rfl,bG,_,rfl,?_⟩
       refine ao (fun h6=>?_) (fun h6=>?_)
       ·
        refine⟨_,rfl,_,bA,_,rfl,_,bG,_,_,rfl,(by first|lia|decide),_,_,rfl,rfl,_,rfl,fun v3 H3 s3 f3=>?_⟩
        exact kk _ _ _ (by simp only[fh,aPos h1,aa h2,aPos h3,aa h4,aPos h5,aPos h6,aB,aD,aC]) s3 f3
       ·
        exact kk _ _ _ (by simp only[fh,aPos h1,aa h2,aPos h3,aa h4,aPos h5,aa h6,aB,aD,aC]) (ah.refl _) (T.dG _)
      ·
       refine dw ?_
       exact kk _ _ _ (by simp only[fh,aPos h1,aa h2,aPos h3,aa h4,aa h5,aB,aD,aC]) (ah.refl _) (T.dG _)
    ·
     refine dw ?_
     refine⟨_,rfl,_,bA,_,_,rfl,rfl,_,rfl,?_⟩
     refine ao (fun h7=>?_) (fun h7=>?_)
     ·
      refine⟨_,rfl,_,_,rfl,bG,_,rfl,?_⟩
      refine ao (fun h8=>?_) (fun h8=>?_)
      ·
       refine⟨_,rfl,_,bA,_,rfl,_,bG,_,_,rfl,(by first|lia|decide),_,_,rfl,rfl,_,rfl,fun v4 H4 s4 f4=>?_⟩
       exact kk _ _ _ (by simp only[fh,aPos h1,aa h2,aa h3,aPos h7,aPos h8,aB,aD,aC]) s4 f4
      ·
       exact kk _ _ _ (by simp only[fh,aPos h1,aa h2,aa h3,aPos h7,aa h8,aB,aD,aC]) (ah.refl _) (T.dG _)
     ·
      refine dw ?_
      exact kk _ _ _ (by simp only[fh,aPos h1,aa h2,aa h3,aa h7,aB,aD,aC]) (ah.refl _) (T.dG _)
  ·
   refine dw ?_
   refine⟨_,rfl,_,bA,_,_,rfl,rfl,_,rfl,?_⟩
   refine ao (fun h9=>?_) (fun h9=>?_)
   ·
    refine⟨_,rfl,_,bG,_,_,rfl,rfl,_,rfl,?_⟩
    refine ao (fun gw=>?_) (fun gw=>?_)
    ·
     refine⟨_,rfl,_,rfl,_,_,_,_,rfl,bG,bA,fun v5 H5 s5 f5=>?_⟩
     exact kk _ _ _ (by simp only[fh,aa h1,aPos h9,aPos gw,aB,aD,aC]) s5 f5
    ·
     refine⟨_,rfl,_,bA,_,_,rfl,rfl,_,rfl,?_⟩
     refine ao (fun h11=>?_) (fun h11=>?_)
     ·
      refine⟨_,rfl,_,_,rfl,bG,_,rfl,?_⟩
      refine ao (fun h12=>?_) (fun h12=>?_)
      ·
       refine⟨_,rfl,_,bA,_,rfl,_,bG,_,_,rfl,(by first|lia|decide),_,_,rfl,rfl,_,rfl,fun v6 H6 s6 f6=>?_⟩
       exact kk _ _ _ (by simp only[fh,aa h1,aPos h9,aa gw,aPos h11,aPos h12,aB,aD,aC]) s6 f6
      ·
       exact kk _ _ _ (by simp only[fh,aa h1,aPos h9,aa gw,aPos h11,aa h12,aB,aD,aC]) (ah.refl _) (T.dG _)
     ·
      refine dw ?_
      exact kk _ _ _ (by simp only[fh,aa h1,aPos h9,aa gw,aa h11,aB,aD,aC]) (ah.refl _) (T.dG _)
   ·
    refine dw ?_
    refine⟨_,rfl,_,bA,_,_,rfl,rfl,_,rfl,?_⟩
    refine ao (fun bK=>?_) (fun bK=>?_)
    ·
     refine⟨_,rfl,_,_,rfl,bG,_,rfl,?_⟩
     refine ao (fun mH=>?_) (fun mH=>?_)
     ·
      refine⟨_,rfl,_,bA,_,rfl,_,bG,_,_,rfl,(by first|lia|decide),_,_,rfl,rfl,_,rfl,fun v7 H7 s7 f7=>?_⟩
      exact kk _ _ _ (by simp only[fh,aa h1,aa h9,aPos bK,aPos mH,aB,aD,aC]) s7 f7
     ·
      exact kk _ _ _ (by simp only[fh,aa h1,aa h9,aPos bK,aa mH,aB,aD,aC]) (ah.refl _) (T.dG _)
    ·
     refine dw ?_
     exact kk _ _ _ (by simp only[fh,aa h1,aa h9,aa bK,aB,aD,aC]) (ah.refl _) (T.dG _)
def RO (K:W.Frag):Sp:=fun vs H Q _=>∃(dh:V) (dst:S3) (cu:V) (x:S3),vs=[dh,cu]∧aQ K H dh dst∧aQ K H cu x∧(∀v H',ah H H'→aQ K H' v (jm dst x)→Q v H')
theorem RP:aI ["dst","x"] ["dst","x"] (aG (top 60)):=aM
theorem RQ (T:Txt P w K mg A):Callee P w K mg base 3 "difference_span" ["dst","x"] (RO K):=by
 refine aT T.xT RP (fun _ _ _ _ _ _=>ln2 fun _ _=>by kernel_rfl) (fun _ _ _ _ h=>?_) (fun _ _ _ _ _ H vs Q E hr h=>?_)
 ·obtain⟨_,_,_,_,rfl,_⟩:=h
  rfl
 ·obtain⟨dh,dst,cu,x,rfl,bA,bG,k⟩:=h
  have kk:∀v H' r,jm dst x=r→ah H H'→aQ K H' v r→Q v H':=fun v H' r e a b=>k v H' a (e▸b)
  refine⟨_,(au (aN (gq (aX (aO (dZ (pv 0)) (aU T.kP))) (gI (aX (aO (dZ (pv 1)) (aU T.cP))))).pt (ak (ay (aE (RG T) (hr.mono (by decide)) (af (pv 0) (af (pv 1) ai))))) aP) (au (aN (gq (aX (aO (dZ (pv 0)) (aU T.jM))) (gI (bI (aE (rE T) (hr.mono (by decide)) (af (pv 1) ai)) (fun _=>rfl)))).pt (ak (ay (aE (Ij T) (hr.mono (by decide)) (af (aF fF (cU (pv 0)) (aE (iL T) (hr.mono (by decide)) (af (cU (pv 1)) (af aj ai)))) ai)))) aP) (ak (ay (cY T.kQ))))),?_⟩
  try dsimp only[aad]
  refine⟨_,rfl,_,bA,_,_,rfl,rfl,_,rfl,?_⟩
  refine ao (fun h1=>?_) (fun h1=>?_)
  ·
   refine⟨_,rfl,_,bG,_,_,rfl,rfl,_,rfl,?_⟩
   refine ao (fun h2=>?_) (fun h2=>?_)
   ·
    refine⟨_,rfl,_,rfl,_,_,_,_,rfl,bA,bG,fun v1 H1 s1 f1=>?_⟩
    exact kk _ _ _ (by simp only[jm,aPos h1,aPos h2,aB,aD,aC]) s1 f1
   ·
    refine⟨_,rfl,_,bA,_,_,rfl,rfl,_,rfl,?_⟩
    refine ao (fun h3=>?_) (fun h3=>?_)
    ·
     refine⟨_,rfl,_,_,rfl,bG,_,rfl,?_⟩
     refine ao (fun h4=>?_) (fun h4=>?_)
     ·
      refine⟨_,rfl,_,bA,_,rfl,_,bG,_,_,rfl,(by first|lia|decide),_,_,rfl,rfl,_,rfl,fun v2 H2 s2 f2=>?_⟩
      exact kk _ _ _ (by simp only[jm,aPos h1,aa h2,aPos h3,aPos h4,aB,aD,aC]) s2 f2
     ·
      exact kk _ _ _ (by simp only[jm,aPos h1,aa h2,aPos h3,aa h4,aB,aD,aC]) (ah.refl _) (T.dG _)
    ·
     refine dw ?_
     exact kk _ _ _ (by simp only[jm,aPos h1,aa h2,aa h3,aB,aD,aC]) (ah.refl _) (T.dG _)
  ·
   refine dw ?_
   refine⟨_,rfl,_,bA,_,_,rfl,rfl,_,rfl,?_⟩
   refine ao (fun h5=>?_) (fun h5=>?_)
   ·
    refine⟨_,rfl,_,_,rfl,bG,_,rfl,?_⟩
    refine ao (fun h6=>?_) (fun h6=>?_)
    ·
     refine⟨_,rfl,_,bA,_,rfl,_,bG,_,_,rfl,(by first|lia|decide),_,_,rfl,rfl,_,rfl,fun v3 H3 s3 f3=>?_⟩
     exact kk _ _ _ (by simp only[jm,aa h1,aPos h5,aPos h6,aB,aD,aC]) s3 f3
    ·
     exact kk _ _ _ (by simp only[jm,aa h1,aPos h5,aa h6,aB,aD,aC]) (ah.refl _) (T.dG _)
   ·
    refine dw ?_
    exact kk _ _ _ (by simp only[jm,aa h1,aa h5,aB,aD,aC]) (ah.refl _) (T.dG _)
def RT (K:W.Frag):Sp:=fun vs H Q _=>∃(aA:V) (ins:Insn) (dh:V) (dst:S3) (cu:V) (x:S3),vs=[aA,dh,cu]∧bf K H aA ins∧aQ K H dh dst∧aQ K H cu x∧(∀v H',ah H H'→aQ K H' v (iN ins dst x)→Q v H')
theorem RU:aI ["ins","dst","x"] ["ins","dst","x"] (aG (top 61)):=aM
theorem RV (T:Txt P w K mg A):Callee P w K mg base 4 "address_span" ["ins","dst","x"] (RT K):=by
 refine aT T.xU RU (fun _ _ _ _ _ _=>Z8 fun _ _ _=>by kernel_rfl) (fun _ _ _ _ h=>?_) (fun _ _ _ _ _ H vs Q E hr h=>?_)
 ·obtain⟨_,_,_,_,_,_,rfl,_⟩:=h
  rfl
 ·obtain⟨aA,ins,dh,dst,cu,x,rfl,aq,bA,bG,k⟩:=h
  have kk:∀v H' r,iN ins dst x=r→ah H H'→aQ K H' v r→Q v H':=fun v H' r e a b=>k v H' a (e▸b)
  refine⟨_,(au (aN (aX (aO (az (pv 0)) aj)) (ak (ay (aE (RN T) (hr.mono (by decide)) (af (pv 1) (af (pv 2) ai))))) aP) (au (aN (aX (aO (az (pv 0)) aj)) (ak (ay (aE (RQ T) (hr.mono (by decide)) (af (pv 1) (af (pv 2) ai))))) aP) (ak (ay (cY T.kQ))))),?_⟩
  try dsimp only[aad]
  refine⟨_,rfl,_,aq.b9,_,_,rfl,rfl,_,rfl,?_⟩
  refine ao (fun h1=>?_) (fun h1=>?_)
  ·
   refine⟨_,rfl,_,rfl,_,_,_,_,rfl,bA,bG,fun v1 H1 s1 f1=>?_⟩
   exact kk _ _ _ (by simp only[iN,aPos h1,aB,aD,aC]) s1 f1
  ·
   refine⟨_,rfl,_,aq.b9,_,_,rfl,rfl,_,rfl,?_⟩
   refine ao (fun h2=>?_) (fun h2=>?_)
   ·
    refine⟨_,rfl,_,rfl,_,_,_,_,rfl,bA,bG,fun v2 H2 s2 f2=>?_⟩
    exact kk _ _ _ (by simp only[iN,aa h1,aPos h2,aB,aD,aC]) s2 f2
   ·
    exact kk _ _ _ (by simp only[iN,aa h1,aa h2,aB,aD,aC]) (ah.refl _) (T.dG _)
def RW (K:W.Frag):Sp:=fun vs H Q _=>∃(fJ:V) (span:S3),vs=[fJ]∧aQ K H fJ span∧(∀v H',ah H H'→aQ K H' v (jn span)→Q v H')
theorem Ik:aI ["span","is_kept"] ["span"] (aG (top 62)):=aM
theorem Dr (T:Txt P w K mg A):Callee P w K mg base 3 "lower_half" ["span"] (RW K):=by
 refine aT T.xV Ik (fun _ _ _ _ _ _=>Z9 fun _=>by kernel_rfl) (fun _ _ _ _ h=>?_) (fun _ _ _ _ _ H vs Q E hr h=>?_)
 ·obtain⟨_,_,rfl,_⟩:=h
  rfl
 ·obtain⟨fJ,span,rfl,fS,k⟩:=h
  have kk:∀v H' r,jn span=r→ah H H'→aQ K H' v r→Q v H':=fun v H' r e a b=>k v H' a (e▸b)
  refine⟨_,(au (bg (i:=1) Ik.nd rfl (Or.inl rfl) (bN (bD (aO (dZ (pv 0)) (aU T.cP))) (cC (c6 dD (d7 (pv 0)) (aE (gi T) (hr.mono (by decide)) (af aj ai)) (bz _))))) (ak (ay (cN (bI (pv 1) (fun _=>rfl)) (pv 0) (aE (iM T) (hr.mono (by decide)) (af aj ai)))))),?_⟩
  try dsimp only[aad]
  refine⟨_,rfl,_,fS,_,_,rfl,rfl,_,rfl,?_⟩
  refine ao (fun h1=>?_) (fun h1=>?_)
  ·
   refine⟨_,rfl,_,fS,_,rfl,(by first|lia|decide),_,_,rfl,rfl,_,rfl,_,rfl,?_⟩
   refine ao (fun h2=>?_) (fun h2=>?_)
   ·
    refine⟨_,rfl,?_⟩
    exact kk _ _ _ (by simp only[jn,aPos h1,aPos h2,aB,aD,aC]) (ah.refl _) fS
   ·
    refine⟨_,rfl,(by first|lia|decide),fun v1 H1 s1 f1=>?_⟩
    exact kk _ _ _ (by simp only[jn,aPos h1,aa h2,aB,aD,aC]) s1 f1
  ·
   refine⟨_,rfl,_,rfl,?_⟩
   refine dw ?_
   refine⟨_,rfl,(by first|lia|decide),fun v2 H2 s2 f2=>?_⟩
   exact kk _ _ _ (by simp only[jn,aa h1,aB,aD,aC]) s2 f2
def RX (K:W.Frag):Sp:=fun vs H Q _=>∃(aA:V) (ins:Insn) (dh:V) (dst:S3) (cu:V) (x:S3),vs=[aA,dh,cu]∧bf K H aA ins∧aQ K H dh dst∧aQ K H cu x∧Q (.bl (jU ins dst x)) H
theorem RY:aI ["ins","dst","x"] ["ins","dst","x"] (aG (top 63)):=aM
theorem RZ (T:Txt P w K mg A):Callee P w K mg base 2 "is_known" ["ins","dst","x"] (RX K):=by
 refine aT T.xW RY (fun _ _ _ _ _ _=>Z8 fun _ _ _=>by kernel_rfl) (fun _ _ _ _ h=>?_) (fun _ _ _ _ _ H vs Q E hr h=>?_)
 ·obtain⟨_,_,_,_,_,_,rfl,_⟩:=h
  rfl
 ·obtain⟨aA,ins,dh,dst,cu,x,rfl,aq,bA,bG,k⟩:=h
  have kk:∀r,jU ins dst x=r→Q (.bl r) H:=fun r e=>e▸k
  refine⟨_,(au (aN (aX (aO (az (pv 0)) (aU T.pF))) (ak (ay (aE (rE T) (hr.mono (by decide)) (af (pv 2) ai)))) aP) (au (aN (gJ (aX (aO (az (pv 0)) (aU T.qW))) (i8 (aX (aO (az (pv 0)) (aU T.nH))))).pt (ak (ay (aE (rE T) (hr.mono (by decide)) (af (pv 1) ai)))) aP) (ak (ay (bN (aE (rE T) (hr.mono (by decide)) (af (pv 1) ai)) (cC (aE (rE T) (hr.mono (by decide)) (af (pv 2) ai)))))))),?_⟩
  try dsimp only[aad]
  refine⟨_,rfl,_,aq.b9,_,_,rfl,rfl,_,rfl,?_⟩
  refine ao (fun h1=>?_) (fun h1=>?_)
  ·
   refine⟨_,rfl,_,_,rfl,bG,?_⟩
   exact kk _ (by simp only[jU,aPos h1,aB,aD,aC])
  ·
   refine⟨_,rfl,_,aq.b9,_,_,rfl,rfl,_,rfl,?_⟩
   refine ao (fun h2=>?_) (fun h2=>?_)
   ·
    refine cA ?_
    refine⟨_,rfl,_,_,rfl,bA,?_⟩
    exact kk _ (by simp only[jU,aa h1,aPos h2,aB,aD,aC])
   ·
    refine⟨_,rfl,_,aq.b9,_,_,rfl,rfl,_,rfl,?_⟩
    refine ao (fun h3=>?_) (fun h3=>?_)
    ·
     refine⟨_,rfl,_,_,rfl,bA,?_⟩
     exact kk _ (by simp only[jU,aa h1,aa h2,aPos h3,aB,aD,aC])
    ·
     refine⟨_,rfl,_,_,rfl,bA,_,rfl,?_⟩
     refine ao (fun h4=>?_) (fun h4=>?_)
     ·
      refine⟨_,rfl,_,_,rfl,bG,?_⟩
      exact kk _ (by simp only[jU,aa h1,aa h2,aa h3,aPos h4,aB,aD,aC])
     ·
      exact kk _ (by simp only[jU,aa h1,aa h2,aa h3,aa h4,aB,aD,aC])
def R0 (K:W.Frag):Sp:=fun vs H Q _=>∃(aA:V) (ins:Insn) (fL:V) (state:List S3),vs=[aA,fL]∧bf K H aA ins∧cE K H fL state∧(∀v H',ah H H'→aQ K H' v (jo ins state)→Q v H')
theorem R1:aI ["ins","state"] ["ins","state"] (aG (top 70)):=aM
theorem Il (T:Txt P w K mg A):Callee P w K mg base 2 "operand" ["ins","state"] (R0 K):=by
 refine aT T.xY R1 (fun _ _ _ _ _ _=>ln2 fun _ _=>by kernel_rfl) (fun _ _ _ _ h=>?_) (fun _ _ _ _ _ H vs Q E hr h=>?_)
 ·obtain⟨_,_,_,_,rfl,_⟩:=h
  rfl
 ·obtain⟨aA,ins,fL,state,rfl,aq,jV,k⟩:=h
  have kk:∀v H' r,jo ins state=r→ah H H'→aQ K H' v r→Q v H':=fun v H' r e a b=>k v H' a (e▸b)
  have qw:=pU ins
  have qs:=aq.ok.src
  have qd:=aq.ok.dst
  refine⟨_,(au (aN (bI (az (pv 0)) (fun _=>rfl)) (ak (ay (lR (pv 1) (az (pv 0))))) aP) (ak (ay (aE (AI T) (hr.mono (by decide)) (af (aF cT (az (pv 0)) (aE (gi T) (hr.mono (by decide)) (af (aE (nT T) (hr.mono (by decide)) (af (pv 0) ai)) ai))) ai))))),?_⟩
  try dsimp only[aad]
  refine⟨_,rfl,_,aq.nG,_,rfl,?_⟩
  refine ao (fun h1=>?_) (fun h1=>?_)
  ·
   refine⟨_,rfl,_,rfl,_,aq.ff,_,_,jV,rfl,⟨by first|lia|decide,by first|lia|decide⟩,fun u2 i2=>?_⟩
   exact kk _ _ _ (by simp only[jo,aPos h1,aB,aD,aC]) (ah.refl _) i2
  ·
   refine⟨_,rfl,_,aq.c9,_,rfl,_,_,rfl,aq,_,rfl,(by first|lia|decide),_,_,rfl,rfl,_,rfl,fun v1 H1 s1 f1=>?_⟩
   exact kk _ _ _ (by simp only[jo,aa h1,aB,aD,aC]) s1 f1
def R3 (K:W.Frag):Sp:=fun vs H Q _=>∃(fJ:V) (span:S3) (jT:V) (other:S3),vs=[fJ,jT]∧aQ K H fJ span∧aQ K H jT other∧(∀v H',ah H H'→aQ K H' v (mJ span other)→Q v H')
theorem uz:aI ["span","other","lo","hi"] ["span","other"] (aG (top 71)):=aM
theorem R4 (T:Txt P w K mg A):Callee P w K mg base 1 "unequal" ["span","other"] (R3 K):=by
 refine aT T.xZ uz (fun _ _ _ _ _ _=>ln2 fun _ _=>by kernel_rfl) (fun _ _ _ _ h=>?_) (fun _ _ _ _ _ H vs Q E _ h=>?_)
 ·obtain⟨_,_,_,_,rfl,_⟩:=h
  rfl
 ·obtain⟨fJ,span,jT,other,rfl,fS,fT,k⟩:=h
  have kk:∀v H' r,mJ span other=r→ah H H'→aQ K H' v r→Q v H':=fun v H' r e a b=>k v H' a (e▸b)
  refine⟨_,(au (bg (i:=2) uz.nd rfl (Or.inl rfl) (cU (pv 0))) (au (bg (i:=3) uz.nd rfl (Or.inl rfl) (d7 (pv 0))) (au (aN (aX (gp (cU (pv 1)) (d7 (pv 1)))) (ak (ay (pv 0))) aP) (au (aN (aX (aO (pv 2) (cU (pv 1)))) (ak (vO (i:=2) uz.nd rfl (Or.inl rfl) aj FH)) aP) (au (aN (aX (aO (pv 3) (cU (pv 1)))) (ak (vO (i:=3) uz.nd rfl (Or.inl rfl) aj Mh)) aP) (ak (ay (dP (af (aU T.cP) (af (pv 2) (af (pv 3) ai))))))))))),?_⟩
  try dsimp only[aad]
  refine⟨_,rfl,_,fS,_,rfl,_,fS,_,rfl,_,fT,_,rfl,_,fT,_,_,rfl,rfl,_,rfl,?_⟩
  refine ao (fun h1=>?_) (fun h1=>?_)
  ·
   refine⟨_,rfl,?_⟩
   exact kk _ _ _ (by simp only[mJ,aPos h1,aB,aD,aC]) (ah.refl _) fS
  ·
   refine⟨_,rfl,_,rfl,_,fT,_,_,rfl,rfl,_,rfl,?_⟩
   refine ao (fun h2=>?_) (fun h2=>?_)
   ·
    refine⟨_,rfl,_,_,rfl,rfl,_,rfl,_,rfl,_,fT,_,_,rfl,rfl,_,rfl,?_⟩
    refine ao (fun h3=>?_) (fun h3=>?_)
    ·
     refine⟨_,rfl,_,_,rfl,rfl,_,rfl,_,rfl,_,_,_,rfl,fun v1 H1 s1 f1=>?_⟩
     exact kk _ _ _ (by simp only[mJ,aa h1,aPos h2,aPos h3,aB,aD,aC]) s1 f1
    ·
     refine⟨_,rfl,_,rfl,_,_,_,rfl,fun v2 H2 s2 f2=>?_⟩
     exact kk _ _ _ (by simp only[mJ,aa h1,aPos h2,aa h3,aB,aD,aC]) s2 f2
   ·
    refine⟨_,rfl,_,rfl,_,fT,_,_,rfl,rfl,_,rfl,?_⟩
    refine ao (fun h4=>?_) (fun h4=>?_)
    ·
     refine⟨_,rfl,_,_,rfl,rfl,_,rfl,_,rfl,_,_,_,rfl,fun v3 H3 s3 f3=>?_⟩
     exact kk _ _ _ (by simp only[mJ,aa h1,aa h2,aPos h4,aB,aD,aC]) s3 f3
    ·
     refine⟨_,rfl,_,rfl,_,_,_,rfl,fun v4 H4 s4 f4=>?_⟩
     exact kk _ _ _ (by simp only[mJ,aa h1,aa h2,aa h4,aB,aD,aC]) s4 f4
def R5 (K:W.Frag):Sp:=fun vs H Q _=>∃(fJ:V) (span:S3) (eW:Str) (jT:V) (other:S3),vs=[fJ,.str eW,jT]∧aQ K H fJ span∧aQ K H jT other∧(∀v H',ah H H'→aQ K H' v (eK span eW other)→Q v H')
theorem Ds:aI ["span","relation","other","lo","hi"] ["span","relation","other"] (aG (top 72)):=aM
theorem Dt (T:Txt P w K mg A):Callee P w K mg base 2 "cut" ["span","relation","other"] (R5 K):=by
 refine aT T.x6 Ds (fun _ _ _ _ _ _=>Z8 fun _ _ _=>by kernel_rfl) (fun _ _ _ _ h=>?_) (fun _ _ _ _ _ H vs Q E hr h=>?_)
 ·obtain⟨_,_,_,_,_,rfl,_⟩:=h
  rfl
 ·obtain⟨fJ,span,eW,jT,other,rfl,fS,fT,k⟩:=h
  have kk:∀v H' r,eK span eW other=r→ah H H'→aQ K H' v r→Q v H':=fun v H' r e a b=>k v H' a (e▸b)
  refine⟨_,(au (bg (i:=3) Ds.nd rfl (Or.inl rfl) (cU (pv 0))) (au (bg (i:=4) Ds.nd rfl (Or.inl rfl) (d7 (pv 0))) (au (aN (bY jI (pv 1) jG (bz _)) (ak (ay (dP (af (aU T.cP) (af (bZ (qI rfl) (by rfl) T.nL boot_max (af (pv 3) (af (cU (pv 2)) ai))) (af (bZ (qJ rfl) (by rfl) T.nM boot_min (af (pv 4) (af (d7 (pv 2)) ai))) ai)))))) aP) (au (aN (bY jI (pv 1) jG (bz _)) (ak (ay (aE (R4 T) (hr.mono (by decide)) (af (pv 0) (af (pv 2) ai))))) aP) (au (aN (bY jI (pv 1) jG (bz _)) (ak (ay (dP (af (aU T.cP) (af (bZ (qI rfl) (by rfl) T.nL boot_max (af (pv 3) (af (aF bL (cU (pv 2)) aj) ai))) (af (pv 4) ai)))))) aP) (au (aN (bY jI (pv 1) jG (bz _)) (ak (ay (dP (af (aU T.cP) (af (bZ (qI rfl) (by rfl) T.nL boot_max (af (pv 3) (af (cU (pv 2)) ai))) (af (pv 4) ai)))))) aP) (au (aN (bY jI (pv 1) jG (bz _)) (ak (ay (dP (af (aU T.cP) (af (pv 3) (af (bZ (qJ rfl) (by rfl) T.nM boot_min (af (pv 4) (af (aF fF (d7 (pv 2)) aj) ai))) ai)))))) aP) (ak (ay (dP (af (aU T.cP) (af (pv 3) (af (bZ (qJ rfl) (by rfl) T.nM boot_min (af (pv 4) (af (d7 (pv 2)) ai))) ai))))))))))))),?_⟩
  try dsimp only[aad]
  refine⟨_,rfl,_,fS,_,rfl,_,fS,_,rfl,rfl,_,rfl,?_⟩
  refine ao (fun h1=>?_) (fun h1=>?_)
  ·
   refine⟨_,rfl,_,rfl,_,fT,_,_,rfl,_,rfl,_,rfl,_,fT,_,_,rfl,_,_,_,rfl,fun v1 H1 s1 f1=>?_⟩
   exact kk _ _ _ (by simp only[eK,aPos h1,aB,aD,aC]) s1 f1
  ·
   refine⟨_,rfl,rfl,_,rfl,?_⟩
   refine ao (fun h2=>?_) (fun h2=>?_)
   ·
    refine⟨_,rfl,_,rfl,_,_,_,_,rfl,fS,fT,fun v2 H2 s2 f2=>?_⟩
    exact kk _ _ _ (by simp only[eK,aa h1,aPos h2,aB,aD,aC]) s2 f2
   ·
    refine⟨_,rfl,rfl,_,rfl,?_⟩
    refine ao (fun h3=>?_) (fun h3=>?_)
    ·
     refine⟨_,rfl,_,rfl,_,fT,_,_,rfl,rfl,_,_,rfl,_,rfl,_,_,_,rfl,fun v3 H3 s3 f3=>?_⟩
     exact kk _ _ _ (by simp only[eK,aa h1,aa h2,aPos h3,aB,aD,aC]) s3 f3
    ·
     refine⟨_,rfl,rfl,_,rfl,?_⟩
     refine ao (fun h4=>?_) (fun h4=>?_)
     ·
      refine⟨_,rfl,_,rfl,_,fT,_,_,rfl,_,rfl,_,_,_,rfl,fun v4 H4 s4 f4=>?_⟩
      exact kk _ _ _ (by simp only[eK,aa h1,aa h2,aa h3,aPos h4,aB,aD,aC]) s4 f4
     ·
      refine⟨_,rfl,rfl,_,rfl,?_⟩
      refine ao (fun h5=>?_) (fun h5=>?_)
      ·
       refine⟨_,rfl,_,rfl,_,rfl,_,fT,_,_,rfl,rfl,_,_,rfl,_,_,_,rfl,fun v5 H5 s5 f5=>?_⟩
       exact kk _ _ _ (by simp only[eK,aa h1,aa h2,aa h3,aa h4,aPos h5,aB,aD,aC]) s5 f5
      ·
       refine⟨_,rfl,_,rfl,_,rfl,_,fT,_,_,rfl,_,_,_,rfl,fun v6 H6 s6 f6=>?_⟩
       exact kk _ _ _ (by simp only[eK,aa h1,aa h2,aa h3,aa h4,aa h5,aB,aD,aC]) s6 f6
def Du (K:W.Frag):Sp:=fun vs H Q _=>∃(fJ:V) (span:S3),vs=[fJ]∧aQ K H fJ span∧Q (.bl (uA span)) H
theorem R6:aI ["span"] ["span"] (aG (top 73)):=aM
theorem Im (T:Txt P w K mg A):Callee P w K mg base 1 "is_none" ["span"] (Du K):=by
 refine aT T.x8 R6 (fun _ _ _ _ _ _=>Z9 fun _=>by kernel_rfl) (fun _ _ _ _ h=>?_) (fun _ _ _ _ _ H vs Q E _ h=>?_)
 ·obtain⟨_,_,rfl,_⟩:=h
  rfl
 ·obtain⟨fJ,span,rfl,fS,k⟩:=h
  have kk:∀r,uA span=r→Q (.bl r) H:=fun r e=>e▸k
  refine⟨_,(ak (ay (c6 ny (cU (pv 0)) (d7 (pv 0)) (bz _)))),?_⟩
  try dsimp only[aad]
  refine⟨_,rfl,_,fS,_,rfl,_,fS,_,_,rfl,rfl,?_⟩
  exact kk _ rfl
def R7 (K:W.Frag):Sp:=fun vs H Q _=>∃(aA:V) (ins:Insn) (dh:V) (dst:S3) (cu:V) (x:S3),vs=[aA,dh,cu]∧bf K H aA ins∧aQ K H dh dst∧aQ K H cu x∧Q (.bl (ig ins dst x)) H
theorem Io:aI ["ins","dst","x","bits"] ["ins","dst","x"] (aG (top 75)):=aM
theorem R8 (T:Txt P w K mg A):Callee P w K mg base 2 "is_telling" ["ins","dst","x"] (R7 K):=by
 refine aT T.ya Io (fun _ _ _ _ _ _=>Z8 fun _ _ _=>by kernel_rfl) (fun _ _ _ _ h=>?_) (fun _ _ _ _ _ H vs Q E hr h=>?_)
 ·obtain⟨_,_,_,_,_,_,rfl,_⟩:=h
  rfl
 ·obtain⟨aA,ins,dh,dst,cu,x,rfl,aq,bA,bG,k⟩:=h
  have kk:∀r,ig ins dst x=r→Q (.bl r) H:=fun r e=>e▸k
  have qw:=pU ins
  refine⟨_,(au (aN (gJ (aX (N9 (az (pv 0)) (cY T.zJ)) (by with_unfolding_all rfl)) (gJ (aX (gp (dZ (pv 1)) (aU T.cP))) (i8 (aX (gp (dZ (pv 2)) (aU T.cP)))))).pt (ak (ay lI)) aP) (au (bg (i:=3) Io.nd rfl (Or.inl rfl) (cN (bY qV (az (pv 0)) (cY T.CY) (by with_unfolding_all rfl)) (aF fF (aE (nT T) (hr.mono (by decide)) (af (pv 0) ai)) aj) (aE (nT T) (hr.mono (by decide)) (af (pv 0) ai)))) (ak (ay (c6 dD (bZ (qI rfl) (by rfl) T.nL boot_max (af (d7 (pv 1)) (af (d7 (pv 2)) ai))) (aE (gi T) (hr.mono (by decide)) (af (pv 3) ai)) (bz _)))))),?_⟩
  try dsimp only[aad]
  refine⟨_,rfl,_,aq.b9,_,_,Sum.inl _,rfl,T.iK,rfl,_,rfl,?_⟩
  refine ao (fun h1=>?_) (fun h1=>?_)
  ·
   refine cA ?_
   exact kk _ (by simp only[ig,aPos h1,aB,aD,aC])
  ·
   refine⟨_,rfl,_,bA,_,_,rfl,rfl,_,rfl,?_⟩
   refine ao (fun h2=>?_) (fun h2=>?_)
   ·
    refine cA ?_
    exact kk _ (by simp only[ig,aa h1,aPos h2,aB,aD,aC])
   ·
    refine⟨_,rfl,_,bG,_,_,rfl,rfl,_,rfl,?_⟩
    refine ao (fun h3=>?_) (fun h3=>?_)
    ·
     exact kk _ (by simp only[ig,aa h1,aa h2,aPos h3,aB,aD,aC])
    ·
     refine⟨_,rfl,_,aq.b9,_,_,rfl,T.pI _,rfl,rfl,_,rfl,?_⟩
     refine ao (fun h4=>?_) (fun h4=>?_)
     ·
      refine⟨_,rfl,_,_,rfl,aq,_,_,rfl,rfl,_,rfl,_,bA,_,rfl,_,bG,_,_,rfl,_,rfl,_,rfl,(by first|lia|decide),_,_,rfl,rfl,?_⟩
      exact kk _ (by simp only[ig,aa h1,aa h2,aa h3,aPos h4,aB,aD,aC])
     ·
      refine⟨_,rfl,_,_,rfl,aq,_,rfl,_,bA,_,rfl,_,bG,_,_,rfl,_,rfl,_,rfl,(by first|lia|decide),_,_,rfl,rfl,?_⟩
      exact kk _ (by simp only[ig,aa h1,aa h2,aa h3,aa h4,aB,aD,aC])
def uB (K:W.Frag):Sp:=fun vs H Q _=>∃(aA:V) (ins:Insn),vs=[aA]∧bf K H aA ins∧Q (.bl (dH ins)) H
theorem R9:aI ["ins"] ["ins"] (aG (top 92)):=aM
theorem nV (T:Txt P w K mg A):Callee P w K mg base 1 "is_exchange" ["ins"] (uB K):=by
 refine aT T.ye R9 (fun _ _ _ _ _ _=>Z9 fun _=>by kernel_rfl) (fun _ _ _ _ h=>?_) (fun _ _ _ _ _ H vs Q E _ h=>?_)
 ·obtain⟨_,_,rfl,_⟩:=h
  rfl
 ·obtain⟨aA,ins,rfl,aq,k⟩:=h
  have kk:∀r,dH ins=r→Q (.bl r) H:=fun r e=>e▸k
  refine⟨_,(ak (ay (bN (bD (aO (az (pv 0)) aj)) (cC (bD (aO (az (pv 0)) aj)))))),?_⟩
  try dsimp only[aad]
  refine⟨_,rfl,_,aq.gT,_,_,rfl,rfl,_,rfl,?_⟩
  refine ao (fun h1=>?_) (fun h1=>?_)
  ·
   refine⟨_,rfl,_,aq.pC,_,_,rfl,rfl,?_⟩
   exact kk _ (by simp only[dH,aPos h1,aB,aD,aC])
  ·
   exact kk _ (by simp only[dH,aa h1,aB,aD,aC])
def Sa (K:W.Frag):Sp:=fun vs H Q _=>∃(aA:V) (ins:Insn),vs=[aA]∧bf K H aA ins∧Q (.bl (jq ins)) H
theorem Sb:aI ["ins"] ["ins"] (aG (top 93)):=aM
theorem Dv (T:Txt P w K mg A):Callee P w K mg base 1 "is_jump" ["ins"] (Sa K):=by
 refine aT T.yf Sb (fun _ _ _ _ _ _=>Z9 fun _=>by kernel_rfl) (fun _ _ _ _ h=>?_) (fun _ _ _ _ _ H vs Q E _ h=>?_)
 ·obtain⟨_,_,rfl,_⟩:=h
  rfl
 ·obtain⟨aA,ins,rfl,aq,k⟩:=h
  have kk:∀r,jq ins=r→Q (.bl r) H:=fun r e=>e▸k
  refine⟨_,(ak (ay (bN (bD (nF (az (pv 0)) (af aj (af aj ai))) (by with_unfolding_all rfl)) (cC (bD (Oc (az (pv 0)) (af (aU T.pG) (af (aU T.nJ) ai))) (by with_unfolding_all rfl)))))),?_⟩
  try dsimp only[aad]
  refine⟨_,rfl,_,aq.gT,rfl,rfl,(by decide),_,rfl,?_⟩
  refine ao (fun h1=>?_) (fun h1=>?_)
  ·
   refine⟨_,rfl,_,aq.eF,rfl,rfl,(by decide),?_⟩
   exact kk _ (by simp only[jq,aPos h1,aB,aD,aC])
  ·
   exact kk _ (by simp only[jq,aa h1,aB,aD,aC])
def Ip (K:W.Frag):Sp:=fun vs H Q _=>∃(aA:V) (ins:Insn) (place:Int),vs=[aA,.int place]∧bf K H aA ins∧Q (.int (fj ins place)) H
theorem Sd:aI ["ins","place"] ["ins","place"] (aG (top 94)):=aM
theorem rG (T:Txt P w K mg A):Callee P w K mg base 1 "jump_place" ["ins","place"] (Ip K):=by
 refine aT T.yg Sd (fun _ _ _ _ _ _=>ln2 fun _ _=>by kernel_rfl) (fun _ _ _ _ h=>?_) (fun _ _ _ _ _ H vs Q E _ h=>?_)
 ·obtain⟨_,_,_,rfl,_⟩:=h
  rfl
 ·obtain⟨aA,ins,place,rfl,aq,k⟩:=h
  have kk:∀r,fj ins place=r→Q (.int r) H:=fun r e=>e▸k
  refine⟨_,(ak (ay (aF bL (aF bL (pv 1) aj) (cN (aX (aO (az (pv 0)) (aU T.tM))) (az (pv 0)) (az (pv 0)))))),?_⟩
  try dsimp only[aad]
  refine⟨_,rfl,_,_,rfl,rfl,_,rfl,_,aq.eF,_,_,rfl,rfl,_,rfl,?_⟩
  refine ao (fun h1=>?_) (fun h1=>?_)
  ·
   refine⟨_,rfl,_,aq.c9,_,_,rfl,rfl,?_⟩
   exact kk _ (by simp only[fj,aPos h1,aB,aD,aC])
  ·
   refine⟨_,rfl,_,aq.dz,_,_,rfl,rfl,?_⟩
   exact kk _ (by simp only[fj,aa h1,aB,aD,aC])
def Se (K:W.Frag):Sp:=fun vs H Q _=>∃(Dy:V) (program:List Insn) (place:Int),vs=[Dy,.int place]∧dg K H Dy program∧(0≤place∧place+1<(program.length:Int))∧Q (.int (nW program place)) H
theorem Dz:aI ["program","place","lower","upper"] ["program","place"] (aG (top 96)):=aM
theorem Iq (T:Txt P w K mg A):Callee P w K mg base 1 "wide_number" ["program","place"] (Se K):=by
 refine aT T.yi Dz (fun _ _ _ _ _ _=>ln2 fun _ _=>by kernel_rfl) (fun _ _ _ _ h=>?_) (fun _ _ _ _ _ H vs Q E _ h=>?_)
 ·obtain⟨_,_,_,rfl,_⟩:=h
  rfl
 ·obtain⟨Dy,program,place,rfl,Ir,hp,k⟩:=h
  have kk:∀r,nW program place=r→Q (.int r) H:=fun r e=>e▸k
  have q1:=bitAnd_range ((program.getD (place).toNat aW).imm) (show(0:Int)≤4294967295 by decide)
  have q2:=bitAnd_range ((program.getD ((place+(1:Int))).toNat aW).imm) (show(0:Int)≤4294967295 by decide)
  refine⟨_,(au (bg (i:=2) Dz.nd rfl (Or.inl rfl) (aF cT (az (pD (pv 0) (pv 1))) aj)) (au (bg (i:=3) Dz.nd rfl (Or.inl rfl) (aF cT (az (pD (pv 0) (aF bL (pv 1) aj))) aj)) (ak (ay (aF vS (aF jb (pv 3) aj) (pv 2)))))),?_⟩
  try dsimp only[aad]
  refine⟨_,rfl,_,Ir,_,rfl,ah.refl _,_,_,rfl,(by first|lia|decide),(mj (by first|lia|decide)),fun u1 i1=>?_⟩
  refine⟨_,i1.c9,_,_,rfl,rfl,_,rfl,_,Ir,_,rfl,_,_,rfl,rfl,ah.refl _,_,_,rfl,(by first|lia|decide),(mj (by first|lia|decide)),fun u2 i2=>?_⟩
  refine⟨_,i2.c9,_,_,rfl,rfl,_,rfl,_,_,rfl,rfl,⟨by first|lia|decide,by first|lia|decide,by first|lia|decide⟩,_,rfl,_,_,rfl,rfl,?_⟩
  exact kk _ rfl
def Sf (K:W.Frag):Sp:=fun vs H Q _=>∃(aA:V) (ins:Insn),vs=[aA]∧bf K H aA ins∧Q (.bl (jW ins)) H
theorem Sg:aI ["ins"] ["ins"] (aG (top 97)):=aM
theorem AK (T:Txt P w K mg A):Callee P w K mg base 1 "has_operand" ["ins"] (Sf K):=by
 refine aT T.yj Sg (fun _ _ _ _ _ _=>Z9 fun _=>by kernel_rfl) (fun _ _ _ _ h=>?_) (fun _ _ _ _ _ H vs Q E _ h=>?_)
 ·obtain⟨_,_,rfl,_⟩:=h
  rfl
 ·obtain⟨aA,ins,rfl,aq,k⟩:=h
  have kk:∀r,jW ins=r→Q (.bl r) H:=fun r e=>e▸k
  refine⟨_,(ak (ay (cN (bI (az (pv 0)) (fun _=>rfl)) (bD (aO (az (pv 0)) aj)) (bD (aO (az (pv 0)) aj))))),?_⟩
  try dsimp only[aad]
  refine⟨_,rfl,_,aq.nG,_,rfl,?_⟩
  refine ao (fun h1=>?_) (fun h1=>?_)
  ·
   refine⟨_,rfl,_,aq.c9,_,_,rfl,rfl,?_⟩
   exact kk _ (by simp only[jW,aPos h1,aB,aD,aC])
  ·
   refine⟨_,rfl,_,aq.ff,_,_,rfl,rfl,?_⟩
   exact kk _ (by simp only[jW,aa h1,aB,aD,aC])
def Sh (K:W.Frag):Sp:=fun vs H Q _=>∃(aA:V) (ins:Insn),vs=[aA]∧bf K H aA ins∧Q (.bl (ji ins)) H
theorem Si:aI ["ins"] ["ins"] (aG (top 98)):=aM
theorem Sj (T:Txt P w K mg A):Callee P w K mg base 1 "is_wide" ["ins"] (Sh K):=by
 refine aT T.yk Si (fun _ _ _ _ _ _=>Z9 fun _=>by kernel_rfl) (fun _ _ _ _ h=>?_) (fun _ _ _ _ _ H vs Q E _ h=>?_)
 ·obtain⟨_,_,rfl,_⟩:=h
  rfl
 ·obtain⟨aA,ins,rfl,aq,k⟩:=h
  have kk:∀r,ji ins=r→Q (.bl r) H:=fun r e=>e▸k
  refine⟨_,(ak (ay (bN (bD (aO (az (pv 0)) (aU T.nI))) (bN (bD (aO (az (pv 0)) aj)) (cC (bD (aO (az (pv 0)) aj))))))),?_⟩
  try dsimp only[aad]
  refine⟨_,rfl,_,aq.eF,_,_,rfl,rfl,_,rfl,?_⟩
  refine ao (fun h1=>?_) (fun h1=>?_)
  ·
   refine⟨_,rfl,_,aq.ff,_,_,rfl,rfl,_,rfl,?_⟩
   refine ao (fun h2=>?_) (fun h2=>?_)
   ·
    refine⟨_,rfl,_,aq.dz,_,_,rfl,rfl,?_⟩
    exact kk _ (by simp only[ji,aPos h1,aPos h2,aB,aD,aC])
   ·
    exact kk _ (by simp only[ji,aPos h1,aa h2,aB,aD,aC])
  ·
   exact kk _ (by simp only[ji,aa h1,aB,aD,aC])
def Sk (K:W.Frag):Sp:=fun vs H Q _=>∃(aA:V) (ins:Insn),vs=[aA]∧bf K H aA ins∧Q (.bl (jN ins)) H
theorem Sl:aI ["ins"] ["ins"] (aG (top 99)):=aM
theorem Sm (T:Txt P w K mg A):Callee P w K mg base 1 "is_load" ["ins"] (Sk K):=by
 refine aT T.yl Sl (fun _ _ _ _ _ _=>Z9 fun _=>by kernel_rfl) (fun _ _ _ _ h=>?_) (fun _ _ _ _ _ H vs Q E _ h=>?_)
 ·obtain⟨_,_,rfl,_⟩:=h
  rfl
 ·obtain⟨aA,ins,rfl,aq,k⟩:=h
  have kk:∀r,jN ins=r→Q (.bl r) H:=fun r e=>e▸k
  refine⟨_,(ak (ay (bN (bD (aO (az (pv 0)) aj)) (cC (vI (bD (aO (az (pv 0)) aj)) (cC (bN (bD (aO (az (pv 0)) aj)) (cC (c6 iG (az (pv 0)) aj (bz _)))))))))),?_⟩
  try dsimp only[aad]
  refine⟨_,rfl,_,aq.c9,_,_,rfl,rfl,_,rfl,?_⟩
  refine ao (fun h1=>?_) (fun h1=>?_)
  ·
   refine⟨_,rfl,_,aq.pC,_,_,rfl,rfl,_,rfl,?_⟩
   refine ao (fun h2=>?_) (fun h2=>?_)
   ·
    exact kk _ (by simp only[jN,aPos h1,aPos h2,aB,aD,aC])
   ·
    refine⟨_,rfl,_,aq.pC,_,_,rfl,rfl,_,rfl,?_⟩
    refine ao (fun h3=>?_) (fun h3=>?_)
    ·
     refine⟨_,rfl,_,aq.fG,_,_,rfl,rfl,?_⟩
     exact kk _ (by simp only[jN,aPos h1,aa h2,aPos h3,aB,aD,aC])
    ·
     exact kk _ (by simp only[jN,aPos h1,aa h2,aa h3,aB,aD,aC])
  ·
   exact kk _ (by simp only[jN,aa h1,aB,aD,aC])
def Sn (K:W.Frag):Sp:=fun vs H Q _=>∃(aA:V) (ins:Insn),vs=[aA]∧bf K H aA ins∧Q (.bl (lX ins)) H
theorem So:aI ["ins"] ["ins"] (aG (top 100)):=aM
theorem Sq (T:Txt P w K mg A):Callee P w K mg base 1 "is_store_of_imm" ["ins"] (Sn K):=by
 refine aT T.ym So (fun _ _ _ _ _ _=>Z9 fun _=>by kernel_rfl) (fun _ _ _ _ h=>?_) (fun _ _ _ _ _ H vs Q E _ h=>?_)
 ·obtain⟨_,_,rfl,_⟩:=h
  rfl
 ·obtain⟨aA,ins,rfl,aq,k⟩:=h
  have kk:∀r,lX ins=r→Q (.bl r) H:=fun r e=>e▸k
  refine⟨_,(ak (ay (bN (bD (aO (az (pv 0)) aj)) (cC (bD (aO (az (pv 0)) aj)))))),?_⟩
  try dsimp only[aad]
  refine⟨_,rfl,_,aq.pC,_,_,rfl,rfl,_,rfl,?_⟩
  refine ao (fun h1=>?_) (fun h1=>?_)
  ·
   refine⟨_,rfl,_,aq.ff,_,_,rfl,rfl,?_⟩
   exact kk _ (by simp only[lX,aPos h1,aB,aD,aC])
  ·
   exact kk _ (by simp only[lX,aa h1,aB,aD,aC])
def Ss (K:W.Frag):Sp:=fun vs H Q _=>∃(aA:V) (ins:Insn),vs=[aA]∧bf K H aA ins∧Q (.bl (jO ins)) H
theorem Su:aI ["ins"] ["ins"] (aG (top 101)):=aM
theorem Sv (T:Txt P w K mg A):Callee P w K mg base 2 "is_store" ["ins"] (Ss K):=by
 refine aT T.yo Su (fun _ _ _ _ _ _=>Z9 fun _=>by kernel_rfl) (fun _ _ _ _ h=>?_) (fun _ _ _ _ _ H vs Q E hr h=>?_)
 ·obtain⟨_,_,rfl,_⟩:=h
  rfl
 ·obtain⟨aA,ins,rfl,aq,k⟩:=h
  have kk:∀r,jO ins=r→Q (.bl r) H:=fun r e=>e▸k
  refine⟨_,(au (aN (bI (aE (nV T) (hr.mono (by decide)) (af (pv 0) ai)) (fun _=>rfl)) (ak (ay (bN (bD (nF (az (pv 0)) (af aj (af aj ai))) (by with_unfolding_all rfl)) (cC (c6 qV (az (pv 0)) (cY T.Ot) (by with_unfolding_all rfl)))))) aP) (ak (ay (bN (bD (aO (az (pv 0)) aj)) (cC (bD (aO (az (pv 0)) aj))))))),?_⟩
  try dsimp only[aad]
  refine⟨_,rfl,_,_,rfl,aq,_,rfl,?_⟩
  refine ao (fun h1=>?_) (fun h1=>?_)
  ·
   refine⟨_,rfl,_,aq.fG,rfl,rfl,(by decide),_,rfl,?_⟩
   refine ao (fun h2=>?_) (fun h2=>?_)
   ·
    refine⟨_,rfl,_,aq.c9,_,_,rfl,T.zE _,rfl,rfl,?_⟩
    exact kk _ (by simp only[jO,aPos h1,aPos h2,aB,aD,aC])
   ·
    exact kk _ (by simp only[jO,aPos h1,aa h2,aB,aD,aC])
  ·
   refine⟨_,rfl,_,aq.pC,_,_,rfl,rfl,_,rfl,?_⟩
   refine ao (fun h3=>?_) (fun h3=>?_)
   ·
    refine⟨_,rfl,_,aq.c9,_,_,rfl,rfl,?_⟩
    exact kk _ (by simp only[jO,aa h1,aPos h3,aB,aD,aC])
   ·
    exact kk _ (by simp only[jO,aa h1,aa h3,aB,aD,aC])
def Sw (K:W.Frag):Sp:=fun vs H Q _=>∃(aA:V) (ins:Insn),vs=[aA]∧bf K H aA ins∧Q (.bl (nX ins)) H
theorem Sx:aI ["ins"] ["ins"] (aG (top 103)):=aM
theorem Sy (T:Txt P w K mg A):Callee P w K mg base 1 "is_swap" ["ins"] (Sw K):=by
 refine aT T.yq Sx (fun _ _ _ _ _ _=>Z9 fun _=>by kernel_rfl) (fun _ _ _ _ h=>?_) (fun _ _ _ _ _ H vs Q E _ h=>?_)
 ·obtain⟨_,_,rfl,_⟩:=h
  rfl
 ·obtain⟨aA,ins,rfl,aq,k⟩:=h
  have kk:∀r,nX ins=r→Q (.bl r) H:=fun r e=>e▸k
  refine⟨_,(ak (ay (bN (bD (nF (az (pv 0)) (af aj (af aj (af aj ai)))) (by with_unfolding_all rfl)) (bN (bD (aO (az (pv 0)) aj)) (bN (bD (aO (az (pv 0)) aj)) (cC (bD (nF (az (pv 0)) (af aj (af aj (af aj ai)))) (by with_unfolding_all rfl)))))))),?_⟩
  try dsimp only[aad]
  refine⟨_,rfl,_,aq.eF,rfl,rfl,(by decide),_,rfl,?_⟩
  refine ao (fun h1=>?_) (fun h1=>?_)
  ·
   refine⟨_,rfl,_,aq.ff,_,_,rfl,rfl,_,rfl,?_⟩
   refine ao (fun h2=>?_) (fun h2=>?_)
   ·
    refine⟨_,rfl,_,aq.dz,_,_,rfl,rfl,_,rfl,?_⟩
    refine ao (fun h3=>?_) (fun h3=>?_)
    ·
     refine⟨_,rfl,_,aq.c9,rfl,rfl,(by decide),?_⟩
     exact kk _ (by simp only[nX,aPos h1,aPos h2,aPos h3,aB,aD,aC])
    ·
     exact kk _ (by simp only[nX,aPos h1,aPos h2,aa h3,aB,aD,aC])
   ·
    exact kk _ (by simp only[nX,aPos h1,aa h2,aB,aD,aC])
  ·
   exact kk _ (by simp only[nX,aa h1,aB,aD,aC])
def Sz (K:W.Frag):Sp:=fun vs H Q _=>∃(aA:V) (ins:Insn),vs=[aA]∧bf K H aA ins∧Q (.bl (dM ins)) H
theorem Iu:aI ["ins","no_registers"] ["ins"] (aG (top 105)):=aM
theorem Iv (T:Txt P w K mg A):Callee P w K mg base 2 "is_branch" ["ins"] (Sz K):=by
 refine aT T.yt Iu (fun _ _ _ _ _ _=>Z9 fun _=>by kernel_rfl) (fun _ _ _ _ h=>?_) (fun _ _ _ _ _ H vs Q E hr h=>?_)
 ·obtain⟨_,_,rfl,_⟩:=h
  rfl
 ·obtain⟨aA,ins,rfl,aq,k⟩:=h
  have kk:∀r,dM ins=r→Q (.bl r) H:=fun r e=>e▸k
  refine⟨_,(au (bg (i:=1) Iu.nd rfl (Or.inl rfl) (bN (bD (aO (az (pv 0)) aj)) (cC (bD (aO (az (pv 0)) aj))))) (au (aN (aX (aO (az (pv 0)) (aU T.zy))) (ak (ay (bN (pv 1) (cC (bD (aO (az (pv 0)) aj)))))) aP) (au (aN (gJ (aX (aO (az (pv 0)) (aU T.tM))) (i8 (aX (aO (az (pv 0)) (aU T.pG))))).pt (ak (ay (bN (pv 1) (cC (bD (aO (az (pv 0)) aj)))))) aP) (au (aN (aX (aO (az (pv 0)) (aU T.nJ))) (ak (ay (bN (pv 1) (bN (bD (aO (az (pv 0)) aj)) (cC (bD (aO (az (pv 0)) aj))))))) aP) (ak (ay (bN (c6 qV (az (pv 0)) (cY T.Ou) (by with_unfolding_all rfl)) (cC (aE (AK T) (hr.mono (by decide)) (af (pv 0) ai)))))))))),?_⟩
  try dsimp only[aad]
  refine⟨_,rfl,_,aq.bA,_,_,rfl,rfl,_,rfl,?_⟩
  refine ao (fun h1=>?_) (fun h1=>?_)
  ·
   refine⟨_,rfl,_,aq.ff,_,_,rfl,rfl,_,rfl,_,aq.eF,_,_,rfl,rfl,_,rfl,?_⟩
   refine ao (fun h2=>?_) (fun h2=>?_)
   ·
    refine⟨_,rfl,_,rfl,?_⟩
    refine ao (fun h3=>?_) (fun h3=>?_)
    ·
     refine⟨_,rfl,_,aq.c9,_,_,rfl,rfl,?_⟩
     exact kk _ (by simp only[dM,aPos h1,aPos h2,aPos h3,aB,aD,aC])
    ·
     exact kk _ (by simp only[dM,aPos h1,aPos h2,aa h3,aB,aD,aC])
   ·
    refine⟨_,rfl,_,aq.eF,_,_,rfl,rfl,_,rfl,?_⟩
    refine ao (fun h4=>?_) (fun h4=>?_)
    ·
     refine cA ?_
     refine⟨_,rfl,_,rfl,?_⟩
     refine ao (fun h5=>?_) (fun h5=>?_)
     ·
      refine⟨_,rfl,_,aq.dz,_,_,rfl,rfl,?_⟩
      exact kk _ (by simp only[dM,aPos h1,aa h2,aPos h4,aPos h5,aB,aD,aC])
     ·
      exact kk _ (by simp only[dM,aPos h1,aa h2,aPos h4,aa h5,aB,aD,aC])
    ·
     refine⟨_,rfl,_,aq.eF,_,_,rfl,rfl,_,rfl,?_⟩
     refine ao (fun h6=>?_) (fun h6=>?_)
     ·
      refine⟨_,rfl,_,rfl,?_⟩
      refine ao (fun h7=>?_) (fun h7=>?_)
      ·
       refine⟨_,rfl,_,aq.dz,_,_,rfl,rfl,?_⟩
       exact kk _ (by simp only[dM,aPos h1,aa h2,aa h4,aPos h6,aPos h7,aB,aD,aC])
      ·
       exact kk _ (by simp only[dM,aPos h1,aa h2,aa h4,aPos h6,aa h7,aB,aD,aC])
     ·
      refine⟨_,rfl,_,aq.eF,_,_,rfl,rfl,_,rfl,?_⟩
      refine ao (fun h8=>?_) (fun h8=>?_)
      ·
       refine⟨_,rfl,_,rfl,?_⟩
       refine ao (fun h9=>?_) (fun h9=>?_)
       ·
        refine⟨_,rfl,_,aq.dz,_,_,rfl,rfl,_,rfl,?_⟩
        refine ao (fun gw=>?_) (fun gw=>?_)
        ·
         refine⟨_,rfl,_,aq.c9,_,_,rfl,rfl,?_⟩
         exact kk _ (by simp only[dM,aPos h1,aa h2,aa h4,aa h6,aPos h8,aPos h9,aPos gw,aB,aD,aC])
        ·
         exact kk _ (by simp only[dM,aPos h1,aa h2,aa h4,aa h6,aPos h8,aPos h9,aa gw,aB,aD,aC])
       ·
        exact kk _ (by simp only[dM,aPos h1,aa h2,aa h4,aa h6,aPos h8,aa h9,aB,aD,aC])
      ·
       refine⟨_,rfl,_,aq.b9,_,_,rfl,T.tV _,rfl,rfl,_,rfl,?_⟩
       refine ao (fun h11=>?_) (fun h11=>?_)
       ·
        refine⟨_,rfl,_,_,rfl,aq,?_⟩
        exact kk _ (by simp only[dM,aPos h1,aa h2,aa h4,aa h6,aa h8,aPos h11,aB,aD,aC])
       ·
        exact kk _ (by simp only[dM,aPos h1,aa h2,aa h4,aa h6,aa h8,aa h11,aB,aD,aC])
  ·
   refine⟨_,rfl,_,aq.eF,_,_,rfl,rfl,_,rfl,?_⟩
   refine ao (fun h12=>?_) (fun h12=>?_)
   ·
    refine⟨_,rfl,_,rfl,?_⟩
    refine dw ?_
    exact kk _ (by simp only[dM,aa h1,aPos h12,aB,aD,aC])
   ·
    refine⟨_,rfl,_,aq.eF,_,_,rfl,rfl,_,rfl,?_⟩
    refine ao (fun bK=>?_) (fun bK=>?_)
    ·
     refine cA ?_
     refine⟨_,rfl,_,rfl,?_⟩
     refine dw ?_
     exact kk _ (by simp only[dM,aa h1,aa h12,aPos bK,aB,aD,aC])
    ·
     refine⟨_,rfl,_,aq.eF,_,_,rfl,rfl,_,rfl,?_⟩
     refine ao (fun mH=>?_) (fun mH=>?_)
     ·
      refine⟨_,rfl,_,rfl,?_⟩
      refine dw ?_
      exact kk _ (by simp only[dM,aa h1,aa h12,aa bK,aPos mH,aB,aD,aC])
     ·
      refine⟨_,rfl,_,aq.eF,_,_,rfl,rfl,_,rfl,?_⟩
      refine ao (fun AL=>?_) (fun AL=>?_)
      ·
       refine⟨_,rfl,_,rfl,?_⟩
       refine dw ?_
       exact kk _ (by simp only[dM,aa h1,aa h12,aa bK,aa mH,aPos AL,aB,aD,aC])
      ·
       refine⟨_,rfl,_,aq.b9,_,_,rfl,T.tV _,rfl,rfl,_,rfl,?_⟩
       refine ao (fun DA=>?_) (fun DA=>?_)
       ·
        refine⟨_,rfl,_,_,rfl,aq,?_⟩
        exact kk _ (by simp only[dM,aa h1,aa h12,aa bK,aa mH,aa AL,aPos DA,aB,aD,aC])
       ·
        exact kk _ (by simp only[dM,aa h1,aa h12,aa bK,aa mH,aa AL,aa DA,aB,aD,aC])
def SA (K:W.Frag):Sp:=fun vs H Q _=>∃(aA:V) (ins:Insn),vs=[aA]∧bf K H aA ins∧Q (.bl (mK ins)) H
theorem SD:aI ["ins"] ["ins"] (aG (top 107)):=aM
theorem SE (T:Txt P w K mg A):Callee P w K mg base 1 "is_second_half" ["ins"] (SA K):=by
 refine aT T.yu SD (fun _ _ _ _ _ _=>Z9 fun _=>by kernel_rfl) (fun _ _ _ _ h=>?_) (fun _ _ _ _ _ H vs Q E _ h=>?_)
 ·obtain⟨_,_,rfl,_⟩:=h
  rfl
 ·obtain⟨aA,ins,rfl,aq,k⟩:=h
  have kk:∀r,mK ins=r→Q (.bl r) H:=fun r e=>e▸k
  refine⟨_,(ak (ay (bN (bD (aO (az (pv 0)) aj)) (bN (bD (aO (az (pv 0)) aj)) (bN (bD (aO (az (pv 0)) aj)) (cC (bD (aO (az (pv 0)) aj)))))))),?_⟩
  try dsimp only[aad]
  refine⟨_,rfl,_,aq.eF,_,_,rfl,rfl,_,rfl,?_⟩
  refine ao (fun h1=>?_) (fun h1=>?_)
  ·
   refine⟨_,rfl,_,aq.bA,_,_,rfl,rfl,_,rfl,?_⟩
   refine ao (fun h2=>?_) (fun h2=>?_)
   ·
    refine⟨_,rfl,_,aq.ff,_,_,rfl,rfl,_,rfl,?_⟩
    refine ao (fun h3=>?_) (fun h3=>?_)
    ·
     refine⟨_,rfl,_,aq.dz,_,_,rfl,rfl,?_⟩
     exact kk _ (by simp only[mK,aPos h1,aPos h2,aPos h3,aB,aD,aC])
    ·
     exact kk _ (by simp only[mK,aPos h1,aPos h2,aa h3,aB,aD,aC])
   ·
    exact kk _ (by simp only[mK,aPos h1,aa h2,aB,aD,aC])
  ·
   exact kk _ (by simp only[mK,aa h1,aB,aD,aC])
def SG (K:W.Frag):Sp:=fun vs H Q _=>∃(aA:V) (ins:Insn) (number:Int),vs=[aA,.int number]∧bf K H aA ins∧Q (.bl (k6 ins number)) H
theorem SH:aI ["ins","number"] ["ins","number"] (aG (top 109)):=aM
theorem SI (T:Txt P w K mg A):Callee P w K mg base 2 "is_written" ["ins","number"] (SG K):=by
 refine aT T.yx SH (fun _ _ _ _ _ _=>ln2 fun _ _=>by kernel_rfl) (fun _ _ _ _ h=>?_) (fun _ _ _ _ _ H vs Q E hr h=>?_)
 ·obtain⟨_,_,_,rfl,_⟩:=h
  rfl
 ·obtain⟨aA,ins,number,rfl,aq,k⟩:=h
  have kk:∀r,k6 ins number=r→Q (.bl r) H:=fun r e=>e▸k
  refine⟨_,(au (aN (aX (nF (az (pv 0)) (af aj (af aj (af aj (af aj ai))))) (by with_unfolding_all rfl)) (ak (ay (bD (aO (pv 1) (az (pv 0)))))) aP) (au (aN (gK (bI (aE (nV T) (hr.mono (by decide)) (af (pv 0) ai)) (fun _=>rfl))) (ak (ay lI)) aP) (au (aN (aX (aO (az (pv 0)) (aU T.qY))) (ak (ay (bD (aO (pv 1) aj)))) aP) (ak (ay (bN (bD (aO (aF cT (az (pv 0)) aj) aj)) (cC (bD (aO (pv 1) (az (pv 0))))))))))),?_⟩
  try dsimp only[aad]
  refine⟨_,rfl,_,aq.gT,rfl,rfl,(by decide),_,rfl,?_⟩
  refine ao (fun h1=>?_) (fun h1=>?_)
  ·
   refine⟨_,rfl,_,rfl,_,aq.bA,_,_,rfl,rfl,?_⟩
   exact kk _ (by simp only[k6,aPos h1,aB,aD,aC])
  ·
   refine⟨_,rfl,_,_,rfl,aq,_,rfl,?_⟩
   refine mh (fun h2=>?_) (fun h2=>?_)
   ·
    refine⟨_,rfl,_,aq.c9,_,_,rfl,rfl,_,rfl,?_⟩
    refine ao (fun h3=>?_) (fun h3=>?_)
    ·
     refine⟨_,rfl,_,_,rfl,rfl,?_⟩
     exact kk _ (by simp only[k6,aa h1,aPos h2,aPos h3,aB,aD,aC])
    ·
     refine⟨_,rfl,_,aq.c9,_,_,rfl,rfl,_,_,rfl,rfl,_,rfl,?_⟩
     refine ao (fun h4=>?_) (fun h4=>?_)
     ·
      refine⟨_,rfl,_,rfl,_,aq.ff,_,_,rfl,rfl,?_⟩
      exact kk _ (by simp only[k6,aa h1,aPos h2,aa h3,aPos h4,aB,aD,aC])
     ·
      exact kk _ (by simp only[k6,aa h1,aPos h2,aa h3,aa h4,aB,aD,aC])
   ·
    exact kk _ (by simp only[k6,aa h1,aa h2,aB,aD,aC])
def SJ (K:W.Frag):Sp:=fun vs H Q _=>∃(aA:V) (ins:Insn),vs=[aA]∧bf K H aA ins∧Q (.bl (nY ins)) H
theorem SK:aI ["ins"] ["ins"] (aG (top 110)):=aM
theorem SM (T:Txt P w K mg A):Callee P w K mg base 3 "has_wrong_registers" ["ins"] (SJ K):=by
 refine aT T.yy SK (fun _ _ _ _ _ _=>Z9 fun _=>by kernel_rfl) (fun _ _ _ _ h=>?_) (fun _ _ _ _ _ H vs Q E hr h=>?_)
 ·obtain⟨_,_,rfl,_⟩:=h
  rfl
 ·obtain⟨aA,ins,rfl,aq,k⟩:=h
  have kk:∀r,nY ins=r→Q (.bl r) H:=fun r e=>e▸k
  refine⟨_,(ak (ay (vI (c6 ny (az (pv 0)) (aU T.pH) (bz _)) (vI (c6 ny (az (pv 0)) (aU T.pH) (bz _)) (cC (aE (SI T) (hr.mono (by decide)) (af (pv 0) (af (aU T.pH) ai)))))))),?_⟩
  try dsimp only[aad]
  refine⟨_,rfl,_,aq.bA,_,_,rfl,rfl,_,rfl,?_⟩
  refine ao (fun h1=>?_) (fun h1=>?_)
  ·
   exact kk _ (by simp only[nY,aPos h1,aB,aD,aC])
  ·
   refine⟨_,rfl,_,aq.ff,_,_,rfl,rfl,_,rfl,?_⟩
   refine ao (fun h2=>?_) (fun h2=>?_)
   ·
    exact kk _ (by simp only[nY,aa h1,aPos h2,aB,aD,aC])
   ·
    refine⟨_,rfl,_,_,_,rfl,aq,?_⟩
    exact kk _ (by simp only[nY,aa h1,aa h2,aB,aD,aC])
def SN (K:W.Frag):Sp:=fun vs H Q _=>∃(aA:V) (ins:Insn),vs=[aA]∧bf K H aA ins∧Q (.bl (fk ins)) H
theorem SO:aI ["ins"] ["ins"] (aG (top 115)):=aM
theorem Iw (T:Txt P w K mg A):Callee P w K mg base 1 "is_memory" ["ins"] (SN K):=by
 refine aT T.yD SO (fun _ _ _ _ _ _=>Z9 fun _=>by kernel_rfl) (fun _ _ _ _ h=>?_) (fun _ _ _ _ _ H vs Q E _ h=>?_)
 ·obtain⟨_,_,rfl,_⟩:=h
  rfl
 ·obtain⟨aA,ins,rfl,aq,k⟩:=h
  have kk:∀r,fk ins=r→Q (.bl r) H:=fun r e=>e▸k
  refine⟨_,(ak (ay (bD (nF (az (pv 0)) (af aj (af aj (af aj ai)))) (by with_unfolding_all rfl)))),?_⟩
  try dsimp only[aad]
  refine⟨_,rfl,_,aq.gT,rfl,rfl,(by decide),?_⟩
  exact kk _ rfl
def SQ (K:W.Frag):Sp:=fun vs H Q _=>∃(aA:V) (ins:Insn) (fL:V) (state:List S3),vs=[aA,fL]∧bf K H aA ins∧cE K H fL state∧(∀v,aQ K H v (dI ins state)→Q v H)
theorem SR:aI ["ins","state"] ["ins","state"] (aG (top 116)):=aM
theorem AM (T:Txt P w K mg A):Callee P w K mg base 1 "address_of" ["ins","state"] (SQ K):=by
 refine aT T.yE SR (fun _ _ _ _ _ _=>ln2 fun _ _=>by kernel_rfl) (fun _ _ _ _ h=>?_) (fun _ _ _ _ _ H vs Q E _ h=>?_)
 ·obtain⟨_,_,_,_,rfl,_⟩:=h
  rfl
 ·obtain⟨aA,ins,fL,state,rfl,aq,jV,k⟩:=h
  have kk:∀v r,dI ins state=r→aQ K H v r→Q v H:=fun v r e b=>k v (e▸b)
  have qs:=aq.ok.src
  have qd:=aq.ok.dst
  refine⟨_,(ak (ay (cN (aX (aO (az (pv 0)) aj)) (lR (pv 1) (az (pv 0))) (lR (pv 1) (az (pv 0)))))),?_⟩
  try dsimp only[aad]
  refine⟨_,rfl,_,aq.gT,_,_,rfl,rfl,_,rfl,?_⟩
  refine ao (fun h1=>?_) (fun h1=>?_)
  ·
   refine⟨_,rfl,_,rfl,_,aq.ff,_,_,jV,rfl,⟨by first|lia|decide,by first|lia|decide⟩,fun u2 i2=>?_⟩
   exact kk _ _ (by simp only[dI,aPos h1,aB,aD,aC]) i2
  ·
   refine⟨_,rfl,_,rfl,_,aq.bA,_,_,jV,rfl,⟨by first|lia|decide,by first|lia|decide⟩,fun u3 i3=>?_⟩
   exact kk _ _ (by simp only[dI,aa h1,aB,aD,aC]) i3
def SS (K:W.Frag):Sp:=fun vs H Q _=>∃(aA:V) (ins:Insn) (fK:V) (address:S3) (least:Int),vs=[aA,fK,.int least]∧bf K H aA ins∧aQ K H fK address∧Q (.bl (jr ins address least)) H
theorem DB:aI ["ins","address","least","first","end"] ["ins","address","least"] (aG (top 117)):=aM
theorem SV (T:Txt P w K mg A):Callee P w K mg base 1 "is_within" ["ins","address","least"] (SS K):=by
 refine aT T.yF DB (fun _ _ _ _ _ _=>Z8 fun _ _ _=>by kernel_rfl) (fun _ _ _ _ h=>?_) (fun _ _ _ _ _ H vs Q E _ h=>?_)
 ·obtain⟨_,_,_,_,_,rfl,_⟩:=h
  rfl
 ·obtain⟨aA,ins,fK,address,least,rfl,aq,fU,k⟩:=h
  have kk:∀r,jr ins address least=r→Q (.bl r) H:=fun r e=>e▸k
  refine⟨_,(au (bg (i:=3) DB.nd rfl (Or.inl rfl) (aF bL (cU (pv 1)) (az (pv 0)))) (au (bg (i:=4) DB.nd rfl (Or.inl rfl) (aF bL (aF bL (d7 (pv 1)) (az (pv 0))) (az (pv 0)))) (au (aN (aX (aO (dZ (pv 1)) (aU T.kP))) (ak (ay (bN (c6 vU (pv 3) aj (bz _)) (cC (c6 dD (pv 4) (pv 2) (bz _)))))) aP) (au (aN (aX (aO (dZ (pv 1)) (aU T.jM))) (ak (ay (bN (c6 vU (pv 3) aj (bz _)) (cC (c6 dD (pv 4) (aU T.lU) (bz _)))))) aP) (ak (ay lI)))))),?_⟩
  try dsimp only[aad]
  refine⟨_,rfl,_,fU,_,rfl,_,aq.dz,_,_,rfl,rfl,_,rfl,_,fU,_,rfl,_,aq.dz,_,_,rfl,rfl,_,rfl,_,aq.fG,_,_,rfl,rfl,_,rfl,_,fU,_,_,rfl,rfl,_,rfl,?_⟩
  refine ao (fun h1=>?_) (fun h1=>?_)
  ·
   refine⟨_,rfl,_,_,rfl,rfl,_,rfl,?_⟩
   refine ao (fun h2=>?_) (fun h2=>?_)
   ·
    refine⟨_,rfl,_,rfl,_,_,rfl,rfl,?_⟩
    exact kk _ (by simp only[jr,aPos h1,aPos h2,aB,aD,aC])
   ·
    exact kk _ (by simp only[jr,aPos h1,aa h2,aB,aD,aC])
  ·
   refine⟨_,rfl,_,fU,_,_,rfl,rfl,_,rfl,?_⟩
   refine ao (fun h3=>?_) (fun h3=>?_)
   ·
    refine⟨_,rfl,_,_,rfl,rfl,_,rfl,?_⟩
    refine ao (fun h4=>?_) (fun h4=>?_)
    ·
     refine⟨_,rfl,_,_,rfl,rfl,?_⟩
     exact kk _ (by simp only[jr,aa h1,aPos h3,aPos h4,aB,aD,aC])
    ·
     exact kk _ (by simp only[jr,aa h1,aPos h3,aa h4,aB,aD,aC])
   ·
    exact kk _ (by simp only[jr,aa h1,aa h3,aB,aD,aC])
def SW (K:W.Frag):Sp:=fun vs H Q _=>∃(aA:V) (ins:Insn) (fK:V) (address:S3),vs=[aA,fK]∧bf K H aA ins∧aQ K H fK address∧Q (.bl (mL ins address)) H
theorem SX:aI ["ins","address"] ["ins","address"] (aG (top 118)):=aM
theorem SY (T:Txt P w K mg A):Callee P w K mg base 1 "is_aligned" ["ins","address"] (SW K):=by
 refine aT T.yG SX (fun _ _ _ _ _ _=>ln2 fun _ _=>by kernel_rfl) (fun _ _ _ _ h=>?_) (fun _ _ _ _ _ H vs Q E _ h=>?_)
 ·obtain⟨_,_,_,_,rfl,_⟩:=h
  rfl
 ·obtain⟨aA,ins,fK,address,rfl,aq,fU,k⟩:=h
  have kk:∀r,mL ins address=r→Q (.bl r) H:=fun r e=>e▸k
  have qz:=nU ins
  refine⟨_,(ak (ay (bN (bD (aO (cU (pv 1)) (d7 (pv 1)))) (cC (bD (aO (aF g9 (aF bL (cU (pv 1)) (az (pv 0))) (az (pv 0))) aj)))))),?_⟩
  try dsimp only[aad]
  refine⟨_,rfl,_,fU,_,rfl,_,fU,_,_,rfl,rfl,_,rfl,?_⟩
  refine ao (fun h1=>?_) (fun h1=>?_)
  ·
   refine⟨_,rfl,_,fU,_,rfl,_,aq.dz,_,_,rfl,rfl,_,rfl,_,aq.fG,_,_,rfl,rfl,(by show(0:Int)<_;first|lia|decide),_,_,rfl,rfl,?_⟩
   exact kk _ (by simp only[mL,aPos h1,aB,aD,aC])
  ·
   exact kk _ (by simp only[mL,aa h1,aB,aD,aC])
def S0 (K:W.Frag):Sp:=fun vs H Q _=>∃(aA:V) (ins:Insn) (fL:V) (state:List S3) (least:Int),vs=[aA,fL,.int least]∧bf K H aA ins∧cE K H fL state∧Q (.bl (mO ins state least)) H
theorem Iz:aI ["ins","state","least","address"] ["ins","state","least"] (aG (top 119)):=aM
theorem S1 (T:Txt P w K mg A):Callee P w K mg base 2 "is_sure" ["ins","state","least"] (S0 K):=by
 refine aT T.yH Iz (fun _ _ _ _ _ _=>Z8 fun _ _ _=>by kernel_rfl) (fun _ _ _ _ h=>?_) (fun _ _ _ _ _ H vs Q E hr h=>?_)
 ·obtain⟨_,_,_,_,_,rfl,_⟩:=h
  rfl
 ·obtain⟨aA,ins,fL,state,least,rfl,aq,jV,k⟩:=h
  have kk:∀r,mO ins state least=r→Q (.bl r) H:=fun r e=>e▸k
  refine⟨_,(au (bg (i:=3) Iz.nd rfl (Or.inl rfl) (aE (AM T) (hr.mono (by decide)) (af (pv 0) (af (pv 1) ai)))) (au (aN (gK (bI (aE (SV T) (hr.mono (by decide)) (af (pv 0) (af (pv 3) (af (pv 2) ai)))) (fun _=>rfl))) (ak (ay lI)) aP) (ak (ay (vI (aE (SY T) (hr.mono (by decide)) (af (pv 0) (af (pv 3) ai))) (cC (BW (aE (nV T) (hr.mono (by decide)) (af (pv 0) ai))))))))),?_⟩
  try dsimp only[aad]
  refine⟨_,rfl,_,rfl,_,_,_,_,rfl,aq,jV,fun u1 i1=>?_⟩
  refine⟨_,rfl,_,rfl,_,rfl,_,_,_,_,_,rfl,aq,i1,_,rfl,?_⟩
  refine mh (fun h2=>?_) (fun h2=>?_)
  ·
   refine⟨_,rfl,_,rfl,_,_,_,_,rfl,aq,i1,_,rfl,?_⟩
   refine ao (fun h3=>?_) (fun h3=>?_)
   ·
    exact kk _ (by simp only[mO,aPos h2,aPos h3,aB,aD,aC])
   ·
    refine⟨_,rfl,_,_,rfl,aq,_,rfl,?_⟩
    exact kk _ (by simp only[mO,aPos h2,aa h3,aB,aD,aC])
  ·
   exact kk _ (by simp only[mO,aa h2,aB,aD,aC])
def S2 (K:W.Frag):Sp:=fun vs H Q _=>∃(aA:V) (ins:Insn) (fK:V) (address:S3),vs=[aA,fK]∧bf K H aA ins∧aQ K H fK address∧Q (.bl (ir ins address)) H
theorem S4:aI ["ins","address"] ["ins","address"] (aG (top 120)):=aM
theorem IA (T:Txt P w K mg A):Callee P w K mg base 1 "is_whole_piece" ["ins","address"] (S2 K):=by
 refine aT T.yI S4 (fun _ _ _ _ _ _=>ln2 fun _ _=>by kernel_rfl) (fun _ _ _ _ h=>?_) (fun _ _ _ _ _ H vs Q E _ h=>?_)
 ·obtain⟨_,_,_,_,rfl,_⟩:=h
  rfl
 ·obtain⟨aA,ins,fK,address,rfl,aq,fU,k⟩:=h
  have kk:∀r,ir ins address=r→Q (.bl r) H:=fun r e=>e▸k
  refine⟨_,(ak (ay (bN (bD (aO (dZ (pv 1)) (aU T.jM))) (bN (bD (aO (az (pv 0)) aj)) (cC (bD (aO (aF g9 (aF bL (cU (pv 1)) (az (pv 0))) aj) aj))))))),?_⟩
  try dsimp only[aad]
  refine⟨_,rfl,_,fU,_,_,rfl,rfl,_,rfl,?_⟩
  refine ao (fun h1=>?_) (fun h1=>?_)
  ·
   refine⟨_,rfl,_,aq.fG,_,_,rfl,rfl,_,rfl,?_⟩
   refine ao (fun h2=>?_) (fun h2=>?_)
   ·
    refine⟨_,rfl,_,fU,_,rfl,_,aq.dz,_,_,rfl,rfl,_,_,rfl,rfl,(by show(0:Int)<_;first|lia|decide),_,_,rfl,rfl,?_⟩
    exact kk _ (by simp only[ir,aPos h1,aPos h2,aB,aD,aC])
   ·
    exact kk _ (by simp only[ir,aPos h1,aa h2,aB,aD,aC])
  ·
   exact kk _ (by simp only[ir,aa h1,aB,aD,aC])
def S5 (K:W.Frag):Sp:=fun vs H Q _=>∃(aA:V) (ins:Insn) (fL:V) (state:List S3),vs=[aA,fL]∧bf K H aA ins∧cE K H fL state∧(∀v H',ah H H'→aQ K H' v (jt ins state)→Q v H')
theorem S6:aI ["ins","state"] ["ins","state"] (aG (top 123)):=aM
theorem S7 (T:Txt P w K mg A):Callee P w K mg base 2 "stored" ["ins","state"] (S5 K):=by
 refine aT T.yL S6 (fun _ _ _ _ _ _=>ln2 fun _ _=>by kernel_rfl) (fun _ _ _ _ h=>?_) (fun _ _ _ _ _ H vs Q E hr h=>?_)
 ·obtain⟨_,_,_,_,rfl,_⟩:=h
  rfl
 ·obtain⟨aA,ins,fL,state,rfl,aq,jV,k⟩:=h
  have kk:∀v H' r,jt ins state=r→ah H H'→aQ K H' v r→Q v H':=fun v H' r e a b=>k v H' a (e▸b)
  have qs:=aq.ok.src
  have qd:=aq.ok.dst
  refine⟨_,(au (aN (gJ (bI (aE (nV T) (hr.mono (by decide)) (af (pv 0) ai)) (fun _=>rfl)) (i8 (gK (bI (aE (IA T) (hr.mono (by decide)) (af (pv 0) (af (aE (AM T) (hr.mono (by decide)) (af (pv 0) (af (pv 1) ai))) ai))) (fun _=>rfl))))).pt (ak (ay (cY T.kQ))) aP) (ak (ay (cN (aX (aO (az (pv 0)) aj)) (lR (pv 1) (az (pv 0))) (aE (AI T) (hr.mono (by decide)) (af (aF cT (az (pv 0)) (aE (gi T) (hr.mono (by decide)) (af aj ai))) ai)))))),?_⟩
  try dsimp only[aad]
  refine⟨_,rfl,_,_,rfl,aq,_,rfl,?_⟩
  refine ao (fun h1=>?_) (fun h1=>?_)
  ·
   refine cA ?_
   exact kk _ _ _ (by simp only[jt,aPos h1,aB,aD,aC]) (ah.refl _) (T.dG _)
  ·
   refine⟨_,rfl,_,rfl,_,rfl,_,_,_,_,rfl,aq,jV,fun u2 i2=>?_⟩
   refine⟨_,_,_,_,rfl,aq,i2,_,rfl,?_⟩
   refine mh (fun h3=>?_) (fun h3=>?_)
   ·
    refine⟨_,rfl,_,aq.gT,_,_,rfl,rfl,_,rfl,?_⟩
    refine ao (fun h4=>?_) (fun h4=>?_)
    ·
     refine⟨_,rfl,_,rfl,_,aq.ff,_,_,jV,rfl,⟨by first|lia|decide,by first|lia|decide⟩,fun u5 i5=>?_⟩
     exact kk _ _ _ (by simp only[jt,aa h1,aPos h3,aPos h4,aB,aD,aC]) (ah.refl _) i5
    ·
     refine⟨_,rfl,_,aq.c9,_,rfl,(by first|lia|decide),_,_,rfl,rfl,_,rfl,fun v1 H1 s1 f1=>?_⟩
     exact kk _ _ _ (by simp only[jt,aa h1,aPos h3,aa h4,aB,aD,aC]) s1 f1
   ·
    exact kk _ _ _ (by simp only[jt,aa h1,aa h3,aB,aD,aC]) (ah.refl _) (T.dG _)
def S8 (K:W.Frag):Sp:=fun vs H Q _=>∃(aA:V) (ins:Insn) (place:Int) (fL:V) (state:List S3) (least:Int),vs=[aA,.int place,fL,.int least]∧bf K H aA ins∧cE K H fL state∧Q (.bl (iu ins place state least)) H
theorem S9:aI ["ins","place","state","least"] ["ins","place","state","least"] (aG (top 131)):=aM
theorem Tc (T:Txt P w K mg A):Callee P w K mg base 3 "is_good" ["ins","place","state","least"] (S8 K):=by
 refine aT T.yP S9 (fun _ _ _ _ _ _=>ln4 fun _ _ _ _=>by kernel_rfl) (fun _ _ _ _ h=>?_) (fun _ _ _ _ _ H vs Q E hr h=>?_)
 ·obtain⟨_,_,_,_,_,_,rfl,_⟩:=h
  rfl
 ·obtain⟨aA,ins,place,fL,state,least,rfl,aq,jV,k⟩:=h
  have kk:∀r,iu ins place state least=r→Q (.bl r) H:=fun r e=>e▸k
  refine⟨_,(au (aN (bI (aE (Dv T) (hr.mono (by decide)) (af (pv 0) ai)) (fun _=>rfl)) (ak (ay (c6 ny (aE (rG T) (hr.mono (by decide)) (af (pv 0) (af (pv 1) ai))) (pv 1) (bz _)))) aP) (ak (ay (cN (bI (aE (Iw T) (hr.mono (by decide)) (af (pv 0) ai)) (fun _=>rfl)) (aE (S1 T) (hr.mono (by decide)) (af (pv 0) (af (pv 2) (af (pv 3) ai)))) lI)))),?_⟩
  try dsimp only[aad]
  refine⟨_,rfl,_,_,rfl,aq,_,rfl,?_⟩
  refine ao (fun h1=>?_) (fun h1=>?_)
  ·
   refine⟨_,rfl,_,rfl,_,_,_,rfl,aq,_,rfl,_,_,rfl,rfl,?_⟩
   exact kk _ (by simp only[iu,aPos h1,aB,aD,aC])
  ·
   refine⟨_,rfl,_,_,rfl,aq,_,rfl,?_⟩
   refine ao (fun h2=>?_) (fun h2=>?_)
   ·
    refine⟨_,rfl,_,rfl,_,rfl,_,_,_,_,_,rfl,aq,jV,?_⟩
    exact kk _ (by simp only[iu,aa h1,aPos h2,aB,aD,aC])
   ·
    exact kk _ (by simp only[iu,aa h1,aa h2,aB,aD,aC])
def Td (K:W.Frag):Sp:=fun vs H Q _=>∃(way:Int) (found:Int) (word:Int),vs=[.int way,.int found,.int word]∧Q (.int (gx way found word)) H
theorem Te:aI ["way","found","word"] ["way","found","word"] (aG (top 154)):=aM
theorem Tf (T:Txt P w K mg A):Callee P w K mg base 1 "exchanged" ["way","found","word"] (Td K):=by
 refine aT T.zc Te (fun _ _ _ _ _ _=>Z8 fun _ _ _=>by kernel_rfl) (fun _ _ _ _ h=>?_) (fun _ _ _ _ _ H vs Q E _ h=>?_)
 ·obtain⟨_,_,_,rfl,_⟩:=h
  rfl
 ·obtain⟨way,found,word,rfl,k⟩:=h
  have kk:∀r,gx way found word=r→Q (.int r) H:=fun r e=>e▸k
  refine⟨_,(au (aN (aX (aO (pv 0) aj)) (ak (ay (aF bL (pv 1) (pv 2)))) aP) (au (aN (aX (aO (pv 0) aj)) (ak (ay (aF vS (pv 1) (pv 2)))) aP) (au (aN (aX (aO (pv 0) aj)) (ak (ay (aF cT (pv 1) (pv 2)))) aP) (au (aN (aX (aO (pv 0) aj)) (ak (ay (aF FP (pv 1) (pv 2)))) aP) (ak (ay (pv 2))))))),?_⟩
  try dsimp only[aad]
  refine⟨_,rfl,_,_,rfl,rfl,_,rfl,?_⟩
  refine ao (fun h1=>?_) (fun h1=>?_)
  ·
   refine⟨_,rfl,_,rfl,_,_,rfl,rfl,?_⟩
   exact kk _ (by first|(simp only[gx,aPos h1,aB,aD,aC];done)|contradiction)
  ·
   refine⟨_,rfl,_,_,rfl,rfl,_,rfl,?_⟩
   refine ao (fun h2=>?_) (fun h2=>?_)
   ·
    refine⟨_,rfl,_,rfl,_,_,rfl,rfl,?_⟩
    exact kk _ (by first|(simp only[gx,aa h1,aPos h2,aB,aD,aC];done)|contradiction)
   ·
    refine⟨_,rfl,_,_,rfl,rfl,_,rfl,?_⟩
    refine ao (fun h3=>?_) (fun h3=>?_)
    ·
     refine⟨_,rfl,_,rfl,_,_,rfl,rfl,?_⟩
     exact kk _ (by first|(simp only[gx,aa h1,aa h2,aPos h3,aB,aD,aC];done)|contradiction)
    ·
     refine⟨_,rfl,_,_,rfl,rfl,_,rfl,?_⟩
     refine ao (fun h4=>?_) (fun h4=>?_)
     ·
      refine⟨_,rfl,_,rfl,_,_,rfl,rfl,?_⟩
      exact kk _ (by first|(simp only[gx,aa h1,aa h2,aa h3,aPos h4,aB,aD,aC];done)|contradiction)
     ·
      refine⟨_,rfl,?_⟩
      exact kk _ (by first|(simp only[gx,aa h1,aa h2,aa h3,aa h4,aB,aD,aC];done)|contradiction)
def Tg (K:W.Frag):Sp:=fun vs H Q _=>∃(eW:Str) (a:Int) (b:Int),vs=[.str eW,.int a,.int b]∧Q (.bl (jX eW a b)) H
theorem Th:aI ["relation","a","b"] ["relation","a","b"] (aG (top 155)):=aM
theorem Ti (T:Txt P w K mg A):Callee P w K mg base 1 "is_related" ["relation","a","b"] (Tg K):=by
 refine aT T.zd Th (fun _ _ _ _ _ _=>Z8 fun _ _ _=>by kernel_rfl) (fun _ _ _ _ h=>?_) (fun _ _ _ _ _ H vs Q E _ h=>?_)
 ·obtain⟨_,_,_,rfl,_⟩:=h
  rfl
 ·obtain⟨eW,a,b,rfl,k⟩:=h
  have kk:∀r,jX eW a b=r→Q (.bl r) H:=fun r e=>e▸k
  refine⟨_,(au (aN (bY jI (pv 0) jG (bz _)) (ak (ay (bD (aO (pv 1) (pv 2))))) aP) (au (aN (bY jI (pv 0) jG (bz _)) (ak (ay (bD (gp (pv 1) (pv 2))))) aP) (au (aN (bY jI (pv 0) jG (bz _)) (ak (ay (c6 ny (pv 1) (pv 2) (bz _)))) aP) (au (aN (bY jI (pv 0) jG (bz _)) (ak (ay (c6 vU (pv 1) (pv 2) (bz _)))) aP) (au (aN (bY jI (pv 0) jG (bz _)) (ak (ay (c6 iG (pv 1) (pv 2) (bz _)))) aP) (ak (ay (c6 dD (pv 1) (pv 2) (bz _))))))))),?_⟩
  try dsimp only[aad]
  refine⟨_,rfl,rfl,_,rfl,?_⟩
  refine ao (fun h1=>?_) (fun h1=>?_)
  ·
   refine⟨_,rfl,_,rfl,_,_,rfl,rfl,?_⟩
   exact kk _ (by first|(simp only[jX,aPos h1,aB,aD,aC];done)|contradiction)
  ·
   refine⟨_,rfl,rfl,_,rfl,?_⟩
   refine ao (fun h2=>?_) (fun h2=>?_)
   ·
    refine⟨_,rfl,_,rfl,_,_,rfl,rfl,?_⟩
    exact kk _ (by first|(simp only[jX,aa h1,aPos h2,aB,aD,aC];done)|contradiction)
   ·
    refine⟨_,rfl,rfl,_,rfl,?_⟩
    refine ao (fun h3=>?_) (fun h3=>?_)
    ·
     refine⟨_,rfl,_,rfl,_,_,rfl,rfl,?_⟩
     exact kk _ (by first|(simp only[jX,aa h1,aa h2,aPos h3,aB,aD,aC];done)|contradiction)
    ·
     refine⟨_,rfl,rfl,_,rfl,?_⟩
     refine ao (fun h4=>?_) (fun h4=>?_)
     ·
      refine⟨_,rfl,_,rfl,_,_,rfl,rfl,?_⟩
      exact kk _ (by first|(simp only[jX,aa h1,aa h2,aa h3,aPos h4,aB,aD,aC];done)|contradiction)
     ·
      refine⟨_,rfl,rfl,_,rfl,?_⟩
      refine ao (fun h5=>?_) (fun h5=>?_)
      ·
       refine⟨_,rfl,_,rfl,_,_,rfl,rfl,?_⟩
       exact kk _ (by first|(simp only[jX,aa h1,aa h2,aa h3,aa h4,aPos h5,aB,aD,aC];done)|contradiction)
      ·
       refine⟨_,rfl,_,rfl,_,_,rfl,rfl,?_⟩
       exact kk _ (by first|(simp only[jX,aa h1,aa h2,aa h3,aa h4,aa h5,aB,aD,aC];done)|contradiction)
def Tj (K:W.Frag):Sp:=fun vs H Q _=>∃(aA:V) (ins:Insn) (dst:Int) (x:Int),vs=[aA,.int dst,.int x]∧bf K H aA ins∧Q (.bl (gW ins dst x)) H
theorem AN:aI ["ins","dst","x","bits","a","b"] ["ins","dst","x"] (aG (top 156)):=aM
theorem Tn (T:Txt P w K mg A):Callee P w K mg base 3 "is_so" ["ins","dst","x"] (Tj K):=by
 refine aT T.ze AN (fun _ _ _ _ _ _=>Z8 fun _ _ _=>by kernel_rfl) (fun _ _ _ _ h=>?_) (fun _ _ _ _ _ H vs Q E hr h=>?_)
 ·obtain⟨_,_,_,_,rfl,_⟩:=h
  rfl
 ·obtain⟨aA,ins,dst,x,rfl,aq,k⟩:=h
  have kk:∀r,gW ins dst x=r→Q (.bl r) H:=fun r e=>e▸k
  have qw:=pU ins
  refine⟨_,(au (bg (i:=3) AN.nd rfl (Or.inl rfl) (aE (nT T) (hr.mono (by decide)) (af (pv 0) ai))) (au (bg (i:=4) AN.nd rfl (Or.inl rfl) (cN (bY qV (az (pv 0)) (cY T.CY) (by with_unfolding_all rfl)) (aE (iL T) (hr.mono (by decide)) (af (pv 1) (af (pv 3) ai))) (aF cT (pv 1) (aE (gi T) (hr.mono (by decide)) (af (pv 3) ai))))) (au (bg (i:=5) AN.nd rfl (Or.inl rfl) (cN (bY qV (az (pv 0)) (cY T.CY) (by with_unfolding_all rfl)) (aE (iL T) (hr.mono (by decide)) (af (pv 2) (af (pv 3) ai))) (aF cT (pv 2) (aE (gi T) (hr.mono (by decide)) (af (pv 3) ai))))) (au (aN (aX (N8 (az (pv 0)) (cY T.zJ)) (by with_unfolding_all rfl)) (ak (ay (aE (Ti T) (hr.mono (by decide)) (af (nE (cY T.zJ) (az (pv 0))) (af (pv 4) (af (pv 5) ai)))))) aP) (ak (ay (bD (gp (aF cT (pv 4) (pv 5)) aj)))))))),?_⟩
  try dsimp only[aad]
  refine⟨_,rfl,_,_,rfl,aq,_,rfl,_,aq.b9,_,_,rfl,T.pI _,rfl,rfl,_,rfl,?_⟩
  refine ao (fun h1=>?_) (fun h1=>?_)
  ·
   refine⟨_,rfl,_,rfl,_,_,rfl,(by first|lia|decide),_,rfl,_,aq.b9,_,_,rfl,T.pI _,rfl,rfl,_,rfl,?_⟩
   refine ao (fun h2=>?_) (fun h2=>?_)
   ·
    refine⟨_,rfl,_,rfl,_,_,rfl,(by first|lia|decide),_,rfl,_,aq.b9,_,_,Sum.inl _,rfl,T.iK,rfl,_,rfl,?_⟩
    refine ao (fun h3=>?_) (fun h3=>?_)
    ·
     refine⟨_,rfl,_,aq.b9,_,_,Sum.inl _,_,rfl,T.iK,rfl,(by first|exact kZ (by assumption)|exact kZ (by simp_all)|assumption),_,rfl,_,rfl,_,_,_,rfl,?_⟩
     exact kk _ (by first|(simp only[gW,aPos h1,aPos h2,aPos h3,aB,aD,aC];done)|contradiction)
    ·
     refine⟨_,rfl,_,rfl,_,_,rfl,rfl,_,_,rfl,rfl,?_⟩
     exact kk _ (by first|(simp only[gW,aPos h1,aPos h2,aa h3,aB,aD,aC];done)|contradiction)
   ·
    refine⟨_,rfl,_,rfl,_,rfl,(by first|lia|decide),_,_,rfl,rfl,_,rfl,_,aq.b9,_,_,Sum.inl _,rfl,T.iK,rfl,_,rfl,?_⟩
    refine ao (fun h4=>?_) (fun h4=>?_)
    ·
     refine⟨_,rfl,_,aq.b9,_,_,Sum.inl _,_,rfl,T.iK,rfl,(by first|exact kZ (by assumption)|exact kZ (by simp_all)|assumption),_,rfl,_,rfl,_,_,_,rfl,?_⟩
     exact kk _ (by first|(simp only[gW,aPos h1,aa h2,aPos h4,aB,aD,aC];done)|contradiction)
    ·
     refine⟨_,rfl,_,rfl,_,_,rfl,rfl,_,_,rfl,rfl,?_⟩
     exact kk _ (by first|(simp only[gW,aPos h1,aa h2,aa h4,aB,aD,aC];done)|contradiction)
  ·
   refine⟨_,rfl,_,rfl,_,rfl,(by first|lia|decide),_,_,rfl,rfl,_,rfl,_,aq.b9,_,_,rfl,T.pI _,rfl,rfl,_,rfl,?_⟩
   refine ao (fun h5=>?_) (fun h5=>?_)
   ·
    refine⟨_,rfl,_,rfl,_,_,rfl,(by first|lia|decide),_,rfl,_,aq.b9,_,_,Sum.inl _,rfl,T.iK,rfl,_,rfl,?_⟩
    refine ao (fun h6=>?_) (fun h6=>?_)
    ·
     refine⟨_,rfl,_,aq.b9,_,_,Sum.inl _,_,rfl,T.iK,rfl,(by first|exact kZ (by assumption)|exact kZ (by simp_all)|assumption),_,rfl,_,rfl,_,_,_,rfl,?_⟩
     exact kk _ (by first|(simp only[gW,aa h1,aPos h5,aPos h6,aB,aD,aC];done)|contradiction)
    ·
     refine⟨_,rfl,_,rfl,_,_,rfl,rfl,_,_,rfl,rfl,?_⟩
     exact kk _ (by first|(simp only[gW,aa h1,aPos h5,aa h6,aB,aD,aC];done)|contradiction)
   ·
    refine⟨_,rfl,_,rfl,_,rfl,(by first|lia|decide),_,_,rfl,rfl,_,rfl,_,aq.b9,_,_,Sum.inl _,rfl,T.iK,rfl,_,rfl,?_⟩
    refine ao (fun h7=>?_) (fun h7=>?_)
    ·
     refine⟨_,rfl,_,aq.b9,_,_,Sum.inl _,_,rfl,T.iK,rfl,(by first|exact kZ (by assumption)|exact kZ (by simp_all)|assumption),_,rfl,_,rfl,_,_,_,rfl,?_⟩
     exact kk _ (by first|(simp only[gW,aa h1,aa h5,aPos h7,aB,aD,aC];done)|contradiction)
    ·
     refine⟨_,rfl,_,rfl,_,_,rfl,rfl,_,_,rfl,rfl,?_⟩
     exact kk _ (by first|(simp only[gW,aa h1,aa h5,aa h7,aB,aD,aC];done)|contradiction)
theorem To {x y:Int} (hx:0≤x) (hy:0≤y):Builtin.bitOr x y=((x.toNat|||y.toNat:Nat):Int):=by
 have nn:∀z:Int,Builtin.bitNot (Builtin.bitNot z)=z:=fun z=>by unfold Builtin.bitNot;lia
 have h1:¬0≤Builtin.bitNot x:=by unfold Builtin.bitNot;lia
 have h2:¬0≤Builtin.bitNot y:=by unfold Builtin.bitNot;lia
 unfold Builtin.bitOr
 rw[bitAnd_nn h1 h2,nn,nn,nn]
theorem IB (number:Int):∀n:Nat,0≤k7 number n∧k7 number n<2^(8*n)
 |0=>⟨Int.le_refl 0,by show(0:Int)<1;decide⟩
 |n+1=>by
  obtain⟨h1,h2⟩:=IB number n
  unfold k7
  have e8:(2:Int)^(8:Int).toNat=256:=by decide
  rw[e8]
  have a1:=bitAnd_range (number/2^((8:Int)*((0:Int)+(n:Int))).toNat) (show(0:Int)≤255 by decide)
  generalize Builtin.bitAnd (number/2^((8:Int)*((0:Int)+(n:Int))).toNat) 255=y at a1
  generalize k7 number n=x at h1 h2
  rw[To (by lia) (by lia)]
  refine⟨Int.natCast_nonneg _,?_⟩
  have e:(2:Int)^(8*(n+1))=((2^(8*(n+1)):Nat):Int):=(pR _).symm
  rw[e]
  have hx:x.toNat<2^(8*n):=by
   have:((x.toNat:Nat):Int)<((2^(8*n):Nat):Int):=by rw[pR];lia
   exact Int.ofNat_lt.mp this
  have e2:2^(8*(n+1))=2^(8*n)*256:=by rw[Nat.mul_succ,Nat.pow_add]
  have hl:(x*256).toNat<2^(8*(n+1)):=by lia
  have hr:y.toNat<2^(8*(n+1)):=by
   have:256≤2^(8*(n+1)):=by
    rw[e2]
    exact Nat.le_mul_of_pos_left _ (Nat.pow_pos (by decide))
   lia
  exact Int.ofNat_lt.mpr (Nat.or_lt_two_pow hl hr)
def Tp (K:W.Frag):Sp:=fun vs H Q _=>∃(number bits:Int),vs=[.int number,.int bits]∧(0≤number∧(bits=16∨bits=32∨bits=64))∧Q (.int (uC number bits)) H
theorem AO:aI ["number","bits","result","step"] ["number","bits"] (aG (top 27)):=aM
theorem Tq (T:Txt P w K mg A):Callee P w K mg base 1 "turned" ["number","bits"] (Tp K):=by
 refine aT T.xj AO (fun _ _ _ _ _ _=>ln2 fun _ _=>by kernel_rfl) (fun _ _ _ _ h=>?_) (fun _ _ _ _ _ H vs Q E _ h=>?_)
 ·obtain⟨_,_,rfl,_⟩:=h
  rfl
 ·obtain⟨number,bits,rfl,hp,k⟩:=h
  refine⟨_,au (bg (i:=2) AO.nd rfl (Or.inl rfl) aj)
   (au (kL PassesOwn.never rfl (qF rfl T.jh (af (aF pB (pv 1) aj) ai)) (gf (i:=3) AO.nd rfl (Or.inl rfl))
    (ak (bg (i:=2) AO.nd rfl (Or.inl rfl) (aF vS (aF jb (pv 2) aj) (aF cT (aF lK (pv 0) (aF iF aj (pv 3))) aj)))))
   (ak (ay (pv 2)))),?_⟩
  try dsimp only[aad]
  refine⟨_,rfl,_,_,rfl,rfl,⟨by decide,by decide⟩,_,rfl,by lia,by lia,oZ (lo:=0) (n:=(bits/8).toNat) (fun i σ H'=>∃v,σ=[some (.int number),some (.int bits),some (.int (k7 number i)),v]∧H'=H) ⟨none,rfl,rfl⟩ ?_ ?_⟩
  ·rintro i σ H' hi ⟨v,rfl,rfl⟩
   have hb:=IB number i
   have ZJ:i<8:=by lia
   have hb2:k7 number i<2^64:=Int.lt_of_lt_of_le hb.2 (by
    have e:(2:Int)^(8*i)=((2^(8*i):Nat):Int):=(pR _).symm
    have e2:(2:Int)^64=((2^64:Nat):Int):=(pR _).symm
    rw[e,e2]
    exact Int.ofNat_le.mpr (Nat.pow_le_pow_right (by decide) (by lia)))
   refine⟨_,rfl,_,_,rfl,rfl,⟨by decide,by decide,by lia⟩,_,rfl,_,rfl,_,_,rfl,rfl,Or.inl ⟨by decide,by decide⟩,_,_,rfl,rfl,(by show(0:Int)≤_;lia),_,_,rfl,rfl,_,_,rfl,rfl,?_⟩
   exact⟨_,rfl,rfl⟩
  ·rintro σ H' ⟨v,rfl,rfl⟩
   exact⟨_,rfl,k⟩
def Tr (K:W.Frag):Sp:=fun vs H Q _=>∃(aA:V) (ins:Insn) (dst:Int),vs=[aA,.int dst]∧bf K H aA ins∧((0≤dst∧(ins.imm=16∨ins.imm=32∨ins.imm=64)))∧Q (.int (nZ ins dst)) H
theorem Tt:aI ["ins","dst"] ["ins","dst"] (aG (top 28)):=aM
theorem Tu (T:Txt P w K mg A):Callee P w K mg base 2 "swapped" ["ins","dst"] (Tr K):=by
 refine aT T.xo Tt (fun _ _ _ _ _ _=>ln2 fun _ _=>by kernel_rfl) (fun _ _ _ _ h=>?_) (fun _ _ _ _ _ H vs Q E hr h=>?_)
 ·obtain⟨_,_,_,rfl,_⟩:=h
  rfl
 ·obtain⟨aA,ins,dst,rfl,aq,hp,k⟩:=h
  have kk:∀r,nZ ins dst=r→Q (.int r) H:=fun r e=>e▸k
  refine⟨_,(au (aN (gq (aX (aO (az (pv 0)) aj)) (gI (gK (bI (az (pv 0)) (fun _=>rfl))))).pt (ak (ay (aF cT (pv 1) (aE (gi T) (hr.mono (by decide)) (af (az (pv 0)) ai))))) aP) (ak (ay (aE (Tq T) (hr.mono (by decide)) (af (pv 1) (af (az (pv 0)) ai)))))),?_⟩
  try dsimp only[aad]
  refine⟨_,rfl,_,aq.gT,_,_,rfl,rfl,_,rfl,?_⟩
  refine ao (fun h1=>?_) (fun h1=>?_)
  ·
   refine⟨_,rfl,_,aq.nG,_,rfl,?_⟩
   refine mh (fun h2=>?_) (fun h2=>?_)
   ·
    refine⟨_,rfl,_,rfl,_,aq.c9,_,_,rfl,(by first|lia|decide),?_⟩
    exact kk _ (by first|(simp only[nZ,aPos h1,aPos h2,aB,aD,aC];done)|contradiction)
   ·
    refine⟨_,rfl,_,rfl,_,aq.c9,_,rfl,(by first|lia|decide),_,_,rfl,rfl,?_⟩
    exact kk _ (by first|(simp only[nZ,aPos h1,aa h2,aB,aD,aC];done)|contradiction)
  ·
   refine dw ?_
   refine⟨_,rfl,_,rfl,_,aq.c9,_,_,rfl,(by first|lia|decide),?_⟩
   exact kk _ (by first|(simp only[nZ,aa h1,aB,aD,aC];done)|contradiction)
def uD (a b bits:Int):Prop:=0≤a∧a<2^64∧0≤b∧b<2^64∧(bits=32∨bits=64)∧(bits=32→a<2^32∧b<2^32)
def DC (g:Int→Int→Int→Int):Sp:=fun vs H Q _=>∃a b bits:Int,vs=[.int a,.int b,.int bits]∧uD a b bits∧Q (.int (g a b bits)) H
section
variable {base:Heap}
theorem Callee.at_ {x:Str} {ps:List Str} {k:Nat} {sp:Sp} {f:Addr} (C:Callee P w K mg base k x ps sp) (m:mg x=some (.ref f)):∃fd,W.keepIn K (.ref f)=true∧Binds K fd ps []∧dF P w K mg base gS k f fd ps sp:=by
 obtain⟨f',fd,h1,h2,h3,h4⟩:=C.ex
 have e:=h1.symm.trans m
 cases e
 exact⟨fd,h2,h3,h4⟩
abbrev pY (P:Program) (w:World) (K:W.Frag) (mg:Str→Option Value) (base:Heap) (k:Nat) (f:Addr) (ps:List Str) (sp:Sp):Prop:=∃fd,W.keepIn K (.ref f)=true∧Binds K fd ps []∧dF P w K mg base gS k f fd ps sp
theorem bS {x:Str} {ps:List Str} {j k:Nat} {sp sS:Sp} {f:Addr} (C:Callee P w K mg base j x ps sp) (m:mg x=some (.ref f)) (h:j≤k) (imp:∀vs H Q E,sS vs H Q E→sp vs H Q E):pY P w K mg base k f ps sS:=by
 obtain⟨fd,h1,h2,h3⟩:=Callee.at_ C m
 exact⟨fd,h1,h2,(h3.mono h).imp imp⟩
theorem uD.w3 {a b bits:Int} (h:uD a b bits):0≤a∧a<2^64∧0≤b∧b<2^64∧(bits=32∨bits=64):=⟨h.1,h.2.1,h.2.2.1,h.2.2.2.1,h.2.2.2.2.1⟩
theorem IC (T:Txt P w K mg A) (op:Nat) (h:op<13):∃f,c8 (CS A) (Sum.inl (op:Int))=some (.ref f)∧pY P w K mg base 3 f ["a","b","bits"] (DC (rH (op:Int))):=by
 match op,h with
 |0,_=>exact⟨_,rfl,bS (P6 T) T.tX (by decide) fun _ _ _ _ ⟨a,b,c,e,h,q⟩=>⟨a,b,c,e,h.w3,q⟩⟩
 |1,_=>exact⟨_,rfl,bS (P9 T) T.ud (by decide) fun _ _ _ _ ⟨a,b,c,e,h,q⟩=>⟨a,b,c,e,h.w3,q⟩⟩
 |2,_=>exact⟨_,rfl,bS (Qe T) T.t6 (by decide) fun _ _ _ _ ⟨a,b,c,e,h,q⟩=>⟨a,b,c,e,h.w3,q⟩⟩
 |3,_=>exact⟨_,rfl,bS (Qi T) T.lW (by decide) fun _ _ _ _ ⟨a,b,c,e,h,q⟩=>⟨a,b,c,e,h.w3,q⟩⟩
 |4,_=>exact⟨_,rfl,bS (Qo T) T.ue (by decide) fun _ _ _ _ ⟨a,b,c,e,h,q⟩=>⟨a,b,c,e,h.w3,q⟩⟩
 |5,_=>exact⟨_,rfl,bS (Qs T) T.t8 (by decide) fun _ _ _ _ ⟨a,b,c,e,h,q⟩=>⟨a,b,c,e,h.w3,q⟩⟩
 |6,_=>exact⟨_,rfl,bS (Qy T) T.t9 (by decide) fun _ _ _ _ ⟨a,b,c,e,h,q⟩=>⟨a,b,c,e,h.w3,q⟩⟩
 |7,_=>exact⟨_,rfl,bS (QB T) T.ua (by decide) fun _ _ _ _ ⟨a,b,c,e,h,q⟩=>⟨a,b,c,e,h.w3,q⟩⟩
 |8,_=>exact⟨_,rfl,bS (QH T) T.t7 (by decide) fun _ _ _ _ ⟨a,b,c,e,h,q⟩=>⟨a,b,c,e,h.w3,q⟩⟩
 |9,_=>exact⟨_,rfl,bS (Ql T) T.lZ (by decide) fun _ _ _ _ ⟨a,b,c,e,h,q⟩=>⟨a,b,c,e,h.w3,q⟩⟩
 |10,_=>exact⟨_,rfl,bS (Qv T) T.tY (by decide) fun _ _ _ _ ⟨a,b,c,e,h,q⟩=>⟨a,b,c,e,h.w3,q⟩⟩
 |11,_=>exact⟨_,rfl,bS (QK T) T.tZ (by decide) fun _ _ _ _ ⟨a,b,c,e,h,q⟩=>⟨a,b,c,e,h.w3,q⟩⟩
 |12,_=>exact⟨_,rfl,bS (QE T) T.uc (by decide) fun _ _ _ _ ⟨a,b,c,e,h,q⟩=>⟨a,b,c,e,h.w3,q⟩⟩
theorem Tv (T:Txt P w K mg A) (op:Nat) (h:op=3∨op=9):∃f,c8 (CT A) (Sum.inl (op:Int))=some (.ref f)∧pY P w K mg base 3 f ["a","b","bits"] (DC (rJ (op:Int))):=by
 rcases h with rfl|rfl
 ·exact⟨_,rfl,bS (QN T) T.kT (by decide) fun _ _ _ _ ⟨a,b,c,e,h,q⟩=>⟨a,b,c,e,h,q⟩⟩
 ·exact⟨_,rfl,bS (QS T) T.kW (by decide) fun _ _ _ _ ⟨a,b,c,e,h,q⟩=>⟨a,b,c,e,h,q⟩⟩
end
def Tw (K:W.Frag):Sp:=fun vs H Q _=>∃(aA:V) (ins:Insn) (dst x:Int),vs=[aA,.int dst,.int x]∧bf K H aA ins∧(mP ins∧0≤dst∧dst<2^64∧0≤x∧x<2^64)∧Q (.int (jY ins dst x)) H
theorem DE:aI ["ins","dst","x","bits","rule"] ["ins","dst","x"] (aG (top 29)):=aM
theorem Tz {ins:Insn} {dst x:Int}:uD (Builtin.bitAnd dst (bJ (cM ins))) (Builtin.bitAnd x (bJ (cM ins))) (cM ins):=by
 unfold uD
 rcases pU ins with e|e<;>rw[e]
 ·have e1:bJ 32=2^32-1:=Dl 32
  have a1:=bitAnd_range dst (show 0≤bJ 32 by rw[e1];decide)
  have a2:=bitAnd_range x (show 0≤bJ 32 by rw[e1];decide)
  rw[e1]at a1 a2
  rw[e1]
  lia
 ·have e1:bJ 64=2^64-1:=Dl 64
  have a1:=bitAnd_range dst (show 0≤bJ 64 by rw[e1];decide)
  have a2:=bitAnd_range x (show 0≤bJ 64 by rw[e1];decide)
  rw[e1]at a1 a2
  rw[e1]
  lia
theorem ID (T:Txt P w K mg A):Callee P w K mg base 5 "outcome" ["ins","dst","x"] (Tw K):=by
 refine aT T.xq DE (fun _ _ _ _ _ _=>Z8 fun _ _ _=>by kernel_rfl) (fun _ _ _ _ h=>?_) (fun _ _ _ _ _ H vs Q E hr h=>?_)
 ·obtain⟨_,_,_,_,rfl,_⟩:=h
  rfl
 ·obtain⟨aA,ins,dst,x,rfl,aq,⟨hA,hd0,hd1,IE,AQ⟩,k⟩:=h
  have kk:∀r,jY ins dst x=r→Q (.int r) H:=fun r e=>e▸k
  have qw:=pU ins
  refine⟨_,(au (bg (i:=3) DE.nd rfl (Or.inl rfl) (aE (nT T) (hr.mono (by decide)) (af (pv 0) ai)))
   (au (aN (aX (aO (az (pv 0)) (aU T.nH))) (ak (ay (aE (Tu T) (hr.mono (by decide)) (af (pv 0) (af (pv 1) ai))))) aP)
   (au (aN (gq (aX (aO (az (pv 0)) (aU T.pF))) (gI (bI (az (pv 0)) (fun _=>rfl)))).pt
    (ak (ay (aF cT (aE (iL T) (hr.mono (by decide)) (af (pv 2) (af (az (pv 0)) ai))) (aE (gi T) (hr.mono (by decide)) (af (pv 3) ai))))) aP)
   (au (bg (i:=4) DE.nd rfl (Or.inl rfl) (cN (bI (az (pv 0)) (fun _=>rfl)) (nE (cY T.Oz) (az (pv 0))) (nE (cY T.Ox) (az (pv 0)))))
   (ak (ay (aF cT (wA (k:=3) (hr.mono (by decide)) (pv 4) (af (aF cT (pv 1) (aE (gi T) (hr.mono (by decide)) (af (pv 3) ai))) (af (aF cT (pv 2) (aE (gi T) (hr.mono (by decide)) (af (pv 3) ai))) (af (pv 3) ai))))
    (aE (gi T) (hr.mono (by decide)) (af (pv 3) ai))))))))),?_⟩
  try dsimp only[aad]
  refine⟨_,rfl,_,_,rfl,aq,_,rfl,_,aq.b9,_,_,rfl,rfl,_,rfl,?_⟩
  have fin:∀(g:Int→Int→Int→Int) (f:Addr),ins.op≠13→¬(ins.op=11∧ins.off≠0)→(if ins.off≠0 then rJ (ins.op:Int)else rH (ins.op:Int))=g→pY P w K mg base 3 f ["a","b","bits"] (DC g)→
    (kK (dX (fE fun i j=> .int (Builtin.bitAnd i j)) (GQ P w K mg base 3 (bh 4) (bW (dX (fE fun i j=> .int (Builtin.bitAnd i j)) (bh 1) (fR (AF K) [] E0 (bW (bh 3) cK))) (bW (dX (fE fun i j=> .int (Builtin.bitAnd i j)) (bh 2) (fR (AF K) [] E0 (bW (bh 3) cK))) (bW (bh 3) cK)))) (fR (AF K) [] E0 (bW (bh 3) cK)))) {nx:=fun _ H'=>Q .aK H',rt:=Q} [some aA,some (.int dst),some (.int x),some (.int (cM ins)),some (.ref f)] H:=by
   rintro g f n1 n2 e ⟨fd,r1,r2,r3⟩
   refine⟨_,rfl,_,rfl,r1,_,rfl,_,rfl,_,rfl,(by lia),_,_,rfl,rfl,_,rfl,_,rfl,_,rfl,(by lia),_,_,rfl,rfl,_,rfl,fd,_,_,r2,r3,_,_,_,rfl,Tz,_,rfl,_,rfl,(by lia),_,_,rfl,rfl,?_⟩
   refine kk _ ?_
   unfold jY
   rw[aa n1,aa n2,e]
  refine ao (fun h1=>?_) (fun h1=>?_)
  ·have g1:ins.op=13:=by have:=aZ h1;lia
   refine⟨_,rfl,_,rfl,_,_,_,rfl,aq,⟨hd0,hA.swap g1⟩,?_⟩
   exact kk _ (by unfold jY;rw[aPos g1])
  ·have g1:ins.op≠13:=fun z=>h1 (bq (by lia))
   refine⟨_,rfl,_,aq.b9,_,_,rfl,rfl,_,rfl,?_⟩
   refine ao (fun h2=>?_) (fun h2=>?_)
   ·have g2:ins.op=11:=by have:=aZ h2;lia
    refine⟨_,rfl,_,aq.dz,_,rfl,?_⟩
    refine ao (fun h3=>?_) (fun h3=>?_)
    ·have g3:ins.off≠0:=by simpa using h3
     have g4:=hA.n8 g2
     refine⟨_,rfl,_,rfl,_,aq.dz,_,_,rfl,(by lia),_,rfl,_,rfl,(by lia),_,_,rfl,rfl,?_⟩
     exact kk _ (by unfold jY;rw[aa g1,aPos ⟨g2,g3⟩])
    ·have g3:ins.off=0:=by simpa using h3
     refine⟨_,rfl,_,aq.dz,_,rfl,?_⟩
     refine ao (fun h4=>absurd h4 h3) (fun h4=>?_)
     obtain⟨f,v1,v2⟩:=IC (base:=base) T ins.op (by lia)
     refine⟨_,rfl,_,aq.b9,_,_,Sum.inl _,_,rfl,T.tW,rfl,v1,?_⟩
     exact fin _ f g1 (fun z=>z.2 g3) (by rw[aa (fun z=>z g3)]) v2
   ·have g2:ins.op≠11:=fun z=>h2 (bq (by lia))
    have g0:=hA.off g2 g1
    have g5:=hA.op
    refine dw ?_
    refine⟨_,rfl,_,aq.dz,_,rfl,?_⟩
    refine ao (fun h4=>?_) (fun h4=>?_)
    ·have g3:ins.off≠0:=by simpa using h4
     obtain⟨f,v1,v2⟩:=Tv (base:=base) T ins.op (by lia)
     refine⟨_,rfl,_,aq.b9,_,_,Sum.inl _,_,rfl,T.zH,rfl,v1,?_⟩
     exact fin _ f g1 (fun z=>g2 z.1) (by rw[aPos g3]) v2
    ·have g3:ins.off=0:=by simpa using h4
     obtain⟨f,v1,v2⟩:=IC (base:=base) T ins.op (by lia)
     refine⟨_,rfl,_,aq.b9,_,_,Sum.inl _,_,rfl,T.tW,rfl,v1,?_⟩
     exact fin _ f g1 (fun z=>g2 z.1) (by rw[aa (fun z=>z g3)]) v2
theorem AR {s:S3} (h:jZ s):jZ (jn s):=by
 unfold jn
 have e:dS 32=(0,0,4294967295):=by decide
 rw[e]
 have h2:jZ (0,0,4294967295):=⟨by decide,by decide,by decide⟩
 split
 ·split
  ·exact h
  ·exact h2
 ·split
  ·exact h
  ·exact h2
def TF (K:W.Frag) (g:Int→Int→Int→Int→Int→S3):Sp:=fun vs H Q _=>∃a b c d bits:Int,vs=[.int a,.int b,.int c,.int d,.int bits]∧(0≤a∧a≤b∧b<2^64∧0≤c∧c≤d∧d<2^64∧(bits=32∨bits=64))∧
 ∀v H',ah H H'→aQ K H' v (g a b c d bits)→Q v H'
section
variable {base:Heap}
theorem TH (T:Txt P w K mg A) (op:Nat) (h:op≤12) (h8:op≠8) (h11:op≠11):∃f,c8 (CU A) (Sum.inl (op:Int))=some (.ref f)∧pY P w K mg base 5 f ["a","b","c","d","bits"] (TF K (uE (op:Int))):=by
 match op,h,h8,h11 with
 |0,_,_,_=>exact⟨_,rfl,bS (Q6 T) T.pJ (by decide) fun _ _ _ _ h=>h⟩
 |1,_,_,_=>exact⟨_,rfl,bS (Q9 T) T.l9 (by decide) fun _ _ _ _ h=>h⟩
 |2,_,_,_=>exact⟨_,rfl,bS (Rc T) T.pL (by decide) fun _ _ _ _ h=>h⟩
 |3,_,_,_=>exact⟨_,rfl,bS (Rh T) T.lV (by decide) fun _ _ _ _ h=>h⟩
 |4,_,_,_=>exact⟨_,rfl,bS (Ib T) T.jP (by decide) fun _ _ _ _ h=>h⟩
 |5,_,_,_=>exact⟨_,rfl,bS (Rn T) T.pK (by decide) fun _ _ _ _ h=>h⟩
 |6,_,_,_=>exact⟨_,rfl,bS (Rt T) T.lY (by decide) fun _ _ _ _ h=>h⟩
 |7,_,_,_=>exact⟨_,rfl,bS (Ic T) T.jQ (by decide) fun _ _ _ _ h=>h⟩
 |9,_,_,_=>exact⟨_,rfl,bS (Rk T) T.kU (by decide) fun _ _ _ _ h=>h⟩
 |10,_,_,_=>exact⟨_,rfl,bS (Ib T) T.jP (by decide) fun _ _ _ _ h=>h⟩
 |12,_,_,_=>exact⟨_,rfl,bS (Ry T) T.l7 (by decide) fun _ _ _ _ h=>h⟩
 |8,_,h,_=>exact absurd rfl h
 |11,_,_,h=>exact absurd rfl h
 |n+13,h,_,_=>lia
end
def TJ (K:W.Frag):Sp:=fun vs H Q _=>∃(aA:V) (ins:Insn) (dh:V) (dst:S3) (cu:V) (x:S3),vs=[aA,dh,cu]∧bf K H aA ins∧aQ K H dh dst∧aQ K H cu x∧((ins.op≤12∧ins.op≠11)∧jZ dst∧jZ x)∧
 (∀v H',ah H H'→aQ K H' v (mQ ins dst x)→Q v H')
theorem TL:aI ["ins","dst","x"] ["ins","dst","x"] (aG (top 54)):=aM
theorem IF (T:Txt P w K mg A):Callee P w K mg base 6 "number_span" ["ins","dst","x"] (TJ K):=by
 refine aT T.xN TL (fun _ _ _ _ _ _=>Z8 fun _ _ _=>by kernel_rfl) (fun _ _ _ _ h=>?_) (fun _ _ _ _ _ H vs Q E hr h=>?_)
 ·obtain⟨_,_,_,_,_,_,rfl,_⟩:=h
  rfl
 ·obtain⟨aA,ins,dh,dst,cu,x,rfl,aq,bA,bG,⟨⟨o1,o2⟩,hd,hx⟩,k⟩:=h
  have qw:=pU ins
  refine⟨_,(au (aN (gJ (aX (aO (az (pv 0)) (aU T.qW))) (i8 (aX (gp (az (pv 0)) aj)))).pt (ak (ay (aE (iM T) (hr.mono (by decide)) (af (aE (nT T) (hr.mono (by decide)) (af (pv 0) ai)) ai)))) aP)
   (ak (ay (wA (k:=5) (hr.mono (by decide)) (nE (cY T.OA) (az (pv 0))) (af (cU (pv 1)) (af (d7 (pv 1)) (af (cU (pv 2)) (af (d7 (pv 2)) (af (aE (nT T) (hr.mono (by decide)) (af (pv 0) ai)) ai))))))))),?_⟩
  try dsimp only[aad]
  have any:(ins.op=8∨ins.off≠0)→kK (fR (ux K) [] E0 (bW (fR (HY K) [] E0 (bW (bh 0) cK)) cK)) {nx:=fun _ H'=>Q .aK H',rt:=Q} [some aA,some dh,some cu] H:=fun z=>by
   refine⟨_,rfl,_,_,rfl,aq,_,rfl,(by lia),fun v1 H1 s1 f1=>?_⟩
   refine k _ _ s1 ?_
   unfold mQ
   rw[aPos z]
   exact f1
  refine⟨_,rfl,_,aq.b9,_,_,rfl,rfl,_,rfl,?_⟩
  refine ao (fun h1=>?_) (fun h1=>?_)
  ·refine cA ?_
   exact any (Or.inl (by have:=aZ h1;lia))
  ·have g1:ins.op≠8:=fun z=>h1 (bq (by lia))
   refine⟨_,rfl,_,aq.dz,_,_,rfl,rfl,_,rfl,?_⟩
   refine ao (fun h2=>?_) (fun h2=>?_)
   ·exact any (Or.inr (by simpa using h2))
   ·have g2:ins.off=0:=by simpa using h2
    obtain⟨f,v1,fd,r1,r2,r3⟩:=TH (base:=base) T ins.op o1 g1 o2
    refine⟨_,rfl,_,aq.b9,_,_,Sum.inl _,_,rfl,T.zI,rfl,v1,_,rfl,r1,_,rfl,_,bA,_,rfl,_,bA,_,rfl,_,bG,_,rfl,_,bG,_,rfl,_,_,rfl,aq,fd,_,_,r2,r3,_,_,_,_,_,rfl,⟨hd.1,hd.2.1,hd.2.2,hx.1,hx.2.1,hx.2.2,qw⟩,fun v1 H1 s1 f1=>?_⟩
    refine k _ _ s1 ?_
    unfold mQ
    rw[aa (fun z=>z.elim g1 fun y=>y g2)]
    exact f1
theorem uF (a b:Int):(a==b)=decide (b=a):=by
 by_cases h:b=a
 ·subst h;simp
 ·rw[decide_eq_false h]
  exact beq_eq_false_iff_ne.mpr fun z=>h z.symm
theorem TM (o:Int):((8:Int)==o||((16:Int)==o||((32:Int)==o||false)))=(decide (o=8)||decide (o=16)||(true&&decide (o=32))):=by
 rw[uF,uF,uF,Bool.or_false,Bool.true_and,Bool.or_assoc]
theorem TN (o:Int):((8:Int)==o||((16:Int)==o||false))=(decide (o=8)||decide (o=16)||(false&&decide (o=32))):=by
 rw[uF,uF,Bool.or_false,Bool.false_and,Bool.or_false]
def TQ (K:W.Frag):Sp:=fun vs H Q _=>∃(aA:V) (ins:Insn),vs=[aA]∧bf K H aA ins∧(∀H',ah H H'→Q (.bl (uG ins)) H')
theorem IG:aI ["ins","narrower"] ["ins"] (aG (top 102)):=aM
theorem TR (T:Txt P w K mg A):Callee P w K mg base 2 "is_move" ["ins"] (TQ K):=by
 refine aT T.yp IG (fun _ _ _ _ _ _=>Z9 fun _=>by kernel_rfl) (fun _ _ _ _ h=>?_) (fun _ _ _ _ _ H vs Q E hr h=>?_)
 ·obtain⟨_,_,rfl,_⟩:=h
  rfl
 ·obtain⟨aA,ins,rfl,aq,k⟩:=h
  refine⟨_,(au (aN (aX (aO (az (pv 0)) aj)) (ak (ay (aE (AK T) (hr.mono (by decide)) (af (pv 0) ai)))) aP)
   (au (bg (i:=1) IG.nd rfl (Or.inl rfl) (cN (aX (aO (az (pv 0)) aj)) (lM (af aj (af aj (af aj ai)))) (lM (af aj (af aj ai)))))
   (ak (ay (bN (az (pv 0)) (bN (bD (aO (az (pv 0)) aj)) (cC (c6 qV (az (pv 0)) (pv 1) (by with_unfolding_all rfl))))))))),?_⟩
  try dsimp only[aad]
  refine⟨_,rfl,_,aq.dz,_,_,rfl,rfl,_,rfl,?_⟩
  refine ao (fun h1=>?_) (fun h1=>?_)
  ·have g1:ins.off=0:=aZ h1
   refine⟨_,rfl,_,_,rfl,aq,?_⟩
   have q:=k H (ah.refl _)
   unfold uG at q
   rw[aPos g1]at q
   exact q
  ·have g1:¬ins.off=0:=fun z=>h1 (bq z)
   have fin:∀(p:Addr) (xs:List V),xs.all gQ=true→H p=none→c7 (.int ins.off) xs=(decide (ins.off=8)||decide (ins.off=16)||(decide (ins.cls=7)&&decide (ins.off=32)))→
     kK (BV (eT K (bh 0) "from_src") (BV (vF (eT K (bh 0) "imm") (tC (.int 0))) (dX (GU K) (eT K (bh 0) "off") (bh 1)))) {nx:=fun _ H'=>Q .aK H',rt:=Q} [some aA,some (.ref p)] (upd H p (.tup xs)):=by
    intro p xs hf hp e
    have sm:ah H (upd H p (.tup xs)):=ah.new hp
    have fi:=aq.mono sm
    have q:=k _ sm
    unfold uG at q
    rw[aa g1]at q
    refine⟨_,rfl,_,fi.nG,_,rfl,?_⟩
    refine ao (fun h2=>?_) (fun h2=>?_)
    ·rw[h2,Bool.true_and]at q
     refine⟨_,rfl,_,fi.c9,_,_,rfl,rfl,_,rfl,?_⟩
     refine ao (fun h3=>?_) (fun h3=>?_)
     ·rw[show decide (ins.imm=0)=true from h3,Bool.true_and]at q
      refine⟨_,rfl,_,fi.dz,_,rfl,_,_,rfl,cI.of aH,rfl,hf,?_⟩
      rw[e]
      exact q
     ·rw[Bool.not_eq_true]at h3
      rw[show decide (ins.imm=0)=false from h3,Bool.false_and]at q
      exact q
    ·rw[Bool.not_eq_true]at h2
     rw[h2,Bool.false_and]at q
     exact q
   refine⟨_,rfl,_,aq.gT,_,_,rfl,rfl,_,rfl,?_⟩
   refine ao (fun h2=>?_) (fun h2=>?_)
   ·have g2:ins.cls=7:=by have:=aZ h2;lia
    refine⟨by decide,fun p hp=>?_⟩
    refine fin p _ rfl hp ?_
    rw[bq g2]
    show((8:Int)==ins.off||((16:Int)==ins.off||((32:Int)==ins.off||false)))=_
    exact TM _
   ·have g2:¬ins.cls=7:=fun z=>h2 (bq (by lia))
    refine⟨by decide,fun p hp=>?_⟩
    refine fin p _ rfl hp ?_
    rw[decide_eq_false g2]
    show((8:Int)==ins.off||((16:Int)==ins.off||false))=_
    exact TN _
def TU (K:W.Frag):Sp:=fun vs H Q _=>∃(aA:V) (ins:Insn),vs=[aA]∧bf K H aA ins∧(∀H',ah H H'→Q (.bl (eU ins)) H')
theorem TV:aI ["ins"] ["ins"] (aG (top 104)):=aM
theorem II (T:Txt P w K mg A):Callee P w K mg base 3 "is_arithmetic" ["ins"] (TU K):=by
 refine aT T.yr TV (fun _ _ _ _ _ _=>Z9 fun _=>by kernel_rfl) (fun _ _ _ _ h=>?_) (fun _ _ _ _ _ H vs Q E hr h=>?_)
 ·obtain⟨_,_,rfl,_⟩:=h
  rfl
 ·obtain⟨aA,ins,rfl,aq,k⟩:=h
  have kk:∀H' r,eU ins=r→ah H H'→Q (.bl r) H':=fun H' r e b=>e▸k H' b
  refine⟨_,(au (aN (aX (aO (az (pv 0)) (aU T.nH))) (ak (ay (aE (Sy T) (hr.mono (by decide)) (af (pv 0) ai)))) aP) (au (aN (aX (aO (az (pv 0)) (aU T.qW))) (ak (ay (bN (BW (az (pv 0))) (bN (bD (aO (az (pv 0)) aj)) (bN (bD (aO (az (pv 0)) aj)) (cC (bD (aO (az (pv 0)) aj)))))))) aP) (au (aN (aX (aO (az (pv 0)) (aU T.pF))) (ak (ay (aE (TR T) (hr.mono (by decide)) (af (pv 0) ai)))) aP) (au (aN (gJ (aX (aO (az (pv 0)) (aU T.zu))) (i8 (aX (aO (az (pv 0)) (aU T.zw))))).pt (ak (ay (bN (aE (AK T) (hr.mono (by decide)) (af (pv 0) ai)) (cC (bD (nF (az (pv 0)) (af aj (af aj ai))) (by with_unfolding_all rfl)))))) aP) (ak (ay (bN (c6 iG (az (pv 0)) (aU T.nH) (bz _)) (bN (aE (AK T) (hr.mono (by decide)) (af (pv 0) ai)) (cC (bD (aO (az (pv 0)) aj))))))))))),?_⟩
  try dsimp only[aad]
  refine⟨_,rfl,_,aq.b9,_,_,rfl,rfl,_,rfl,?_⟩
  refine ao (fun h1=>?_) (fun h1=>?_)
  ·
   refine⟨_,rfl,_,_,rfl,aq,?_⟩
   exact kk _ _ (by first|(simp only[eU,aPos h1,aB,aD,aC];done)|contradiction) (ah.refl _)
  ·
   refine⟨_,rfl,_,aq.b9,_,_,rfl,rfl,_,rfl,?_⟩
   refine ao (fun h2=>?_) (fun h2=>?_)
   ·
    refine⟨_,rfl,_,aq.nG,_,rfl,_,rfl,?_⟩
    refine ao (fun h3=>?_) (fun h3=>?_)
    ·
     refine⟨_,rfl,_,aq.ff,_,_,rfl,rfl,_,rfl,?_⟩
     refine ao (fun h4=>?_) (fun h4=>?_)
     ·
      refine⟨_,rfl,_,aq.dz,_,_,rfl,rfl,_,rfl,?_⟩
      refine ao (fun h5=>?_) (fun h5=>?_)
      ·
       refine⟨_,rfl,_,aq.c9,_,_,rfl,rfl,?_⟩
       exact kk _ _ (by first|(simp only[eU,aa h1,aPos h2,aPos h3,aPos h4,aPos h5,aB,aD,aC];done)|contradiction) (ah.refl _)
      ·
       exact kk _ _ (by first|(simp only[eU,aa h1,aPos h2,aPos h3,aPos h4,aa h5,aB,aD,aC];done)|contradiction) (ah.refl _)
     ·
      exact kk _ _ (by first|(simp only[eU,aa h1,aPos h2,aPos h3,aa h4,aB,aD,aC];done)|contradiction) (ah.refl _)
    ·
     exact kk _ _ (by first|(simp only[eU,aa h1,aPos h2,aa h3,aB,aD,aC];done)|contradiction) (ah.refl _)
   ·
    refine⟨_,rfl,_,aq.b9,_,_,rfl,rfl,_,rfl,?_⟩
    refine ao (fun h6=>?_) (fun h6=>?_)
    ·
     refine⟨_,rfl,_,_,rfl,aq,fun H1 s1=>?_⟩
     exact kk _ _ (by first|(simp only[eU,aa h1,aa h2,aPos h6,aB,aD,aC];done)|contradiction) s1
    ·
     refine⟨_,rfl,_,aq.b9,_,_,rfl,rfl,_,rfl,?_⟩
     refine ao (fun h7=>?_) (fun h7=>?_)
     ·
      refine cA ?_
      refine⟨_,rfl,_,_,rfl,aq,_,rfl,?_⟩
      refine ao (fun h8=>?_) (fun h8=>?_)
      ·
       refine⟨_,rfl,_,aq.dz,rfl,rfl,(by decide),?_⟩
       exact kk _ _ (by first|(simp only[eU,aa h1,aa h2,aa h6,aPos h7,aPos h8,aB,aD,aC];done)|contradiction) (ah.refl _)
      ·
       exact kk _ _ (by first|(simp only[eU,aa h1,aa h2,aa h6,aPos h7,aa h8,aB,aD,aC];done)|contradiction) (ah.refl _)
     ·
      refine⟨_,rfl,_,aq.b9,_,_,rfl,rfl,_,rfl,?_⟩
      refine ao (fun h9=>?_) (fun h9=>?_)
      ·
       refine⟨_,rfl,_,_,rfl,aq,_,rfl,?_⟩
       refine ao (fun gw=>?_) (fun gw=>?_)
       ·
        refine⟨_,rfl,_,aq.dz,rfl,rfl,(by decide),?_⟩
        exact kk _ _ (by first|(simp only[eU,aa h1,aa h2,aa h6,aa h7,aPos h9,aPos gw,aB,aD,aC];done)|contradiction) (ah.refl _)
       ·
        exact kk _ _ (by first|(simp only[eU,aa h1,aa h2,aa h6,aa h7,aPos h9,aa gw,aB,aD,aC];done)|contradiction) (ah.refl _)
      ·
       refine⟨_,rfl,_,aq.b9,_,_,rfl,rfl,_,rfl,?_⟩
       refine ao (fun h11=>?_) (fun h11=>?_)
       ·
        refine⟨_,rfl,_,_,rfl,aq,_,rfl,?_⟩
        refine ao (fun h12=>?_) (fun h12=>?_)
        ·
         refine⟨_,rfl,_,aq.dz,_,_,rfl,rfl,?_⟩
         exact kk _ _ (by first|(simp only[eU,aa h1,aa h2,aa h6,aa h7,aa h9,aPos h11,aPos h12,aB,aD,aC];done)|contradiction) (ah.refl _)
        ·
         exact kk _ _ (by first|(simp only[eU,aa h1,aa h2,aa h6,aa h7,aa h9,aPos h11,aa h12,aB,aD,aC];done)|contradiction) (ah.refl _)
       ·
        exact kk _ _ (by first|(simp only[eU,aa h1,aa h2,aa h6,aa h7,aa h9,aa h11,aB,aD,aC];done)|contradiction) (ah.refl _)
def TX (K:W.Frag):Sp:=fun vs H Q _=>∃(aA:V) (ins:Insn) (dh:V) (dst:S3) (cu:V) (x:S3),vs=[aA,dh,cu]∧bf K H aA ins∧aQ K H dh dst∧aQ K H cu x∧(mP ins∧jZ dst∧jZ x)∧(∀v H',ah H H'→aQ K H' v (iO ins dst x)→Q v H')
theorem TY:aI ["ins","dst","x"] ["ins","dst","x"] (aG (top 64)):=aM
theorem TZ (T:Txt P w K mg A):Callee P w K mg base 7 "arithmetic_span" ["ins","dst","x"] (TX K):=by
 refine aT T.xX TY (fun _ _ _ _ _ _=>Z8 fun _ _ _=>by kernel_rfl) (fun _ _ _ _ h=>?_) (fun _ _ _ _ _ H vs Q E hr h=>?_)
 ·obtain⟨_,_,_,_,_,_,rfl,_⟩:=h
  rfl
 ·obtain⟨aA,ins,dh,dst,cu,x,rfl,aq,bA,bG,hp,k⟩:=h
  have kk:∀v H' r,iO ins dst x=r→ah H H'→aQ K H' v r→Q v H':=fun v H' r e a b=>k v H' a (e▸b)
  have qo:=hp.1
  have qd:=hp.2.1
  have qx:=hp.2.2
  refine⟨_,(au (aN (bI (aE (RZ T) (hr.mono (by decide)) (af (pv 0) (af (pv 1) (af (pv 2) ai)))) (fun _=>rfl)) (ak (ay (aE (AI T) (hr.mono (by decide)) (af (aE (ID T) (hr.mono (by decide)) (af (pv 0) (af (cU (pv 1)) (af (cU (pv 2)) ai)))) ai)))) aP) (au (aN (aX (aO (az (pv 0)) (aU T.nH))) (ak (ay (aE (iM T) (hr.mono (by decide)) (af (az (pv 0)) ai)))) aP) (au (aN (aX (aO (az (pv 0)) (aU T.pF))) (ak (ay (aE (RB T) (hr.mono (by decide)) (af (pv 0) (af (cN (aX (aO (az (pv 0)) aj)) (pv 2) (aE (Dr T) (hr.mono (by decide)) (af (pv 2) ai))) ai))))) aP) (au (aN (aX (aO (az (pv 0)) aj)) (ak (ay (aE (IF T) (hr.mono (by decide)) (af (pv 0) (af (aE (Dr T) (hr.mono (by decide)) (af (pv 1) ai)) (af (aE (Dr T) (hr.mono (by decide)) (af (pv 2) ai)) ai)))))) aP) (au (aN (gq (aX (aO (dZ (pv 1)) (aU T.cP))) (gI (aX (aO (dZ (pv 2)) (aU T.cP))))).pt (ak (ay (aE (IF T) (hr.mono (by decide)) (af (pv 0) (af (pv 1) (af (pv 2) ai)))))) aP) (ak (ay (aE (RV T) (hr.mono (by decide)) (af (pv 0) (af (pv 1) (af (pv 2) ai))))))))))),?_⟩
  try dsimp only[aad]
  refine⟨_,rfl,_,rfl,_,rfl,_,_,_,_,_,_,rfl,aq,bA,bG,_,rfl,?_⟩
  refine ao (fun h1=>?_) (fun h1=>?_)
  ·
   refine⟨_,rfl,_,rfl,_,bA,_,rfl,_,bG,_,_,_,_,rfl,aq,⟨qo,qd.1,Int.lt_of_le_of_lt qd.2.1 qd.2.2,qx.1,Int.lt_of_le_of_lt qx.2.1 qx.2.2⟩,_,rfl,fun v1 H1 s1 f1=>?_⟩
   exact kk _ _ _ (by first|(simp only[iO,aPos h1,aB,aD,aC];done)|contradiction) s1 f1
  ·
   refine⟨_,rfl,_,aq.b9,_,_,rfl,rfl,_,rfl,?_⟩
   refine ao (fun h2=>?_) (fun h2=>?_)
   ·
    have g2:=aZ h2
    refine⟨_,rfl,_,aq.c9,_,rfl,(by have:=qo.swap (by lia);lia),fun v2 H2 s2 f2=>?_⟩
    exact kk _ _ _ (by first|(simp only[iO,aa h1,aPos h2,aB,aD,aC];done)|contradiction) s2 f2
   ·
    have g2:¬(((ins.op:Nat):Int)=(13:Int)):=fun z=>h2 (bq z)
    refine⟨_,rfl,_,aq.b9,_,_,rfl,rfl,_,rfl,?_⟩
    refine ao (fun h3=>?_) (fun h3=>?_)
    ·
     have g3:=aZ h3
     refine⟨_,rfl,_,rfl,_,aq.gT,_,_,rfl,rfl,_,rfl,?_⟩
     refine ao (fun h4=>?_) (fun h4=>?_)
     ·
      have g4:=aZ h4
      refine⟨_,rfl,_,_,_,_,rfl,aq,bG,(by have:=qo.n8 (by lia);lia),fun v3 H3 s3 f3=>?_⟩
      exact kk _ _ _ (by first|(simp only[iO,aa h1,aa h2,aPos h3,aPos h4,aB,aD,aC];done)|contradiction) s3 f3
     ·
      have g4:¬(((ins.cls:Nat):Int)=(7:Int)):=fun z=>h4 (bq z)
      refine⟨_,rfl,_,_,rfl,bG,fun v4 H4 s4 f4=>?_⟩
      refine⟨_,_,_,_,rfl,(aq.mono s4),f4,(by have:=qo.n8 (by lia);lia),fun v5 H5 s5 f5=>?_⟩
      exact kk _ _ _ (by first|(simp only[iO,aa h1,aa h2,aPos h3,aa h4,aB,aD,aC];done)|contradiction) (ah.trans s4 s5) f5
    ·
     have g3:¬(((ins.op:Nat):Int)=(11:Int)):=fun z=>h3 (bq z)
     refine⟨_,rfl,_,aq.gT,_,_,rfl,rfl,_,rfl,?_⟩
     refine ao (fun h5=>?_) (fun h5=>?_)
     ·
      have g5:=aZ h5
      refine⟨_,rfl,_,rfl,_,_,rfl,bA,fun v6 H6 s6 f6=>?_⟩
      refine⟨_,rfl,_,_,rfl,(bG.mono s6),fun v7 H7 s7 f7=>?_⟩
      refine⟨_,_,_,_,_,_,rfl,(aq.mono (ah.trans s6 s7)),(f6.mono s7),f7,⟨⟨by have:=qo.op;lia,by lia⟩,by first|exact qd|exact AR qd,by first|exact qx|exact AR qx⟩,fun v8 H8 s8 f8=>?_⟩
      exact kk _ _ _ (by first|(simp only[iO,aa h1,aa h2,aa h3,aPos h5,aB,aD,aC];done)|contradiction) (ah.trans (ah.trans s6 s7) s8) f8
     ·
      have g5:¬(((ins.cls:Nat):Int)=(4:Int)):=fun z=>h5 (bq z)
      refine⟨_,rfl,_,bA,_,_,rfl,rfl,_,rfl,?_⟩
      refine ao (fun h6=>?_) (fun h6=>?_)
      ·
       have g6:=aZ h6
       refine⟨_,rfl,_,bG,_,_,rfl,rfl,_,rfl,?_⟩
       refine ao (fun h7=>?_) (fun h7=>?_)
       ·
        have g7:=aZ h7
        refine⟨_,rfl,_,rfl,_,rfl,_,_,_,_,_,_,rfl,aq,bA,bG,⟨⟨by have:=qo.op;lia,by lia⟩,by first|exact qd|exact AR qd,by first|exact qx|exact AR qx⟩,fun v9 H9 s9 f9=>?_⟩
        exact kk _ _ _ (by first|(simp only[iO,aa h1,aa h2,aa h3,aa h5,aPos h6,aPos h7,aB,aD,aC];done)|contradiction) s9 f9
       ·
        have g7:¬(x.1=(0:Int)):=fun z=>h7 (bq z)
        refine⟨_,rfl,_,rfl,_,rfl,_,_,_,_,_,_,rfl,aq,bA,bG,fun v10 NF wo T3=>?_⟩
        exact kk _ _ _ (by first|(simp only[iO,aa h1,aa h2,aa h3,aa h5,aPos h6,aa h7,aB,aD,aC];done)|contradiction) wo T3
      ·
       have g6:¬(dst.1=(0:Int)):=fun z=>h6 (bq z)
       refine dw ?_
       refine⟨_,rfl,_,rfl,_,rfl,_,_,_,_,_,_,rfl,aq,bA,bG,fun v11 ZK GH T4=>?_⟩
       exact kk _ _ _ (by first|(simp only[iO,aa h1,aa h2,aa h3,aa h5,aa h6,aB,aD,aC];done)|contradiction) GH T4
theorem uH:0≤sizeLine:=by decide
theorem cB:1≤sizeLine:=by decide
theorem iw:2≤sizeLine:=by decide
theorem IJ:3≤sizeLine:=by decide
def T5 (K:W.Frag):Sp:=fun vs H Q _=>∃(bP:V) (p:List Insn) (place:Int),vs=[bP,.int place]∧dg K H bP p∧Q (.bl (gX p place)) H
theorem T6:aI ["program","place"] ["program","place"] (aG (top 91)):=aM
theorem IK (T:Txt P w K mg A):Callee P w K mg base 1 "begins_at" ["program","place"] (T5 K):=by
 refine aT T.yd T6 (fun _ _ _ _ _ _=>ln2 fun _ _=>by kernel_rfl) (fun _ _ _ _ h=>?_) (fun _ _ _ _ _ H vs Q E _ h=>?_)
 ·obtain⟨_,_,_,rfl,_⟩:=h
  rfl
 ·obtain⟨bP,p,place,rfl,cZ,k⟩:=h
  refine⟨_,ak (ay (bN (Cb dD iG aj (pv 1) (bZ eO (by rfl) T.d8 boot_len (af (CH (pv 0)) ai))) (cC (bX bR (CH (pv 0)) (pv 1) (fun _ _=>rfl))))),?_⟩
  try dsimp only[aad]
  refine⟨_,rfl,_,_,rfl,rfl,_,rfl,?_⟩
  unfold gX at k
  refine ao (fun h1=>?_) (fun h1=>?_)
  ·rw[show decide (0≤place)=true from h1,Bool.true_and]at k
   have g1:0≤place:=aZ h1
   refine⟨_,rfl,_,cZ,fun a ha=>?_⟩
   refine⟨_,_,rfl,Or.inl (aJ.of ha),_,_,rfl,rfl,_,rfl,?_⟩
   refine ao (fun h2=>?_) (fun h2=>?_)
   ·have g2:=aZ h2
    rw[List.length_map,lS]at g2
    refine⟨_,rfl,_,cZ,fun a' ha'=>?_⟩
    refine⟨_,rfl,_,_,_,_,rfl,rfl,aJ.of ha',jf (v:= .bl (Path.begins p place.toNat)) g1 ?_,k⟩
    rw[List.getElem?_map]
    have hl:place.toNat<(beginsFrom false p).length:=by rw[lS];lia
    rw[List.getElem?_eq_getElem hl]
    unfold Path.begins
    rw[List.getD_eq_getElem?_getD,List.getElem?_eq_getElem hl]
    rfl
   ·have g2:¬place<((beginsFrom false p).map V.bl).length:=fun z=>h2 (bq z)
    rw[List.length_map]at g2
    have e:Path.begins p place.toNat=false:=by
     unfold Path.begins
     rw[List.getD_eq_getElem?_getD,List.getElem?_eq_none (by lia)]
     rfl
    rw[e]at k
    exact k
  ·rw[Bool.not_eq_true]at h1
   rw[show decide (0≤place)=false from h1,Bool.false_and]at k
   refine⟨_,rfl,?_⟩
   exact dw k
def T7 (K:W.Frag):Sp:=fun vs H Q _=>∃(aA:V) (ins:Insn) (place:Int),vs=[aA,.int place]∧bf K H aA ins∧∀a H',ah H H'→H' a=some (.lst ((gk ins place).map V.int))→Q (.ref a) H'
theorem T8:aI ["ins","place"] ["ins","place"] (aG (top 95)):=aM
theorem T9 (T:Txt P w K mg A):Callee P w K mg base 2 "places_behind" ["ins","place"] (T7 K):=by
 refine aT T.yh T8 (fun _ _ _ _ _ _=>ln2 fun _ _=>by kernel_rfl) (fun _ _ _ _ h=>?_) (fun _ _ _ _ _ H vs Q E hr h=>?_)
 ·obtain⟨_,_,_,rfl,_⟩:=h
  rfl
 ·obtain⟨aA,ins,place,rfl,aq,k⟩:=h
  have kk:∀(l:List Int) (a:Addr),H a=none→gk ins place=l→Q (.ref a) (upd H a (.lst (l.map V.int))):=fun l a ha e=>k a _ (ah.new ha) (by rw[e];exact aH)
  refine⟨_,(au (aN (aX (aO (az (pv 0)) (aU T.nJ))) (ak (ay (bO ai))) aP)
   (au (aN (aX (aO (az (pv 0)) (aU T.nI))) (ak (ay (bO (af (aF bL (pv 1) aj) ai)))) aP)
   (au (aN (gK (bI (aE (Dv T) (hr.mono (by decide)) (af (pv 0) ai)) (fun _=>rfl))) (ak (ay (bO (af (aF bL (pv 1) aj) ai)))) aP)
   (au (aN (aX (aO (az (pv 0)) aj)) (ak (ay (bO (af (aE (rG T) (hr.mono (by decide)) (af (pv 0) (af (pv 1) ai))) ai)))) aP)
   (ak (ay (bO (af (aF bL (pv 1) aj) (af (aE (rG T) (hr.mono (by decide)) (af (pv 0) (af (pv 1) ai))) ai))))))))),?_⟩
  try dsimp only[aad]
  refine⟨_,rfl,_,aq.eF,_,_,rfl,rfl,_,rfl,?_⟩
  refine ao (fun h1=>?_) (fun h1=>?_)
  ·have g1:ins.code=149:=by have:=aZ h1;lia
   exact⟨by decide,fun a ha=>kk [] a ha (by unfold gk;rw[aPos g1])⟩
  ·have g1:¬ins.code=149:=fun z=>h1 (bq (by lia))
   refine⟨_,rfl,_,aq.eF,_,_,rfl,rfl,_,rfl,?_⟩
   refine ao (fun h2=>?_) (fun h2=>?_)
   ·have g2:ins.code=24:=by have:=aZ h2;lia
    exact⟨_,rfl,_,_,rfl,rfl,cB,fun a ha=>kk [place+2] a ha (by unfold gk;rw[aa g1,aPos g2])⟩
   ·have g2:¬ins.code=24:=fun z=>h2 (bq (by lia))
    refine⟨_,rfl,_,_,rfl,aq,_,rfl,?_⟩
    refine mh (fun h3=>?_) (fun h3=>?_)
    ·have g3:¬jq ins=false:=by rw[h3];decide
     refine⟨_,rfl,_,aq.b9,_,_,rfl,rfl,_,rfl,?_⟩
     refine ao (fun h4=>?_) (fun h4=>?_)
     ·have g4:ins.op=0:=by have:=aZ h4;lia
      exact⟨_,rfl,_,rfl,_,_,_,rfl,aq,cB,fun a ha=>kk [fj ins place] a ha (by unfold gk;rw[aa g1,aa g2,aa g3,aPos g4])⟩
     ·have g4:¬ins.op=0:=fun z=>h4 (bq (by lia))
      exact⟨_,rfl,_,_,rfl,rfl,_,rfl,_,rfl,_,_,_,rfl,aq,iw,fun a ha=>kk [place+1,fj ins place] a ha (by unfold gk;rw[aa g1,aa g2,aa g3,aa g4])⟩
    ·have g3:jq ins=false:=by rw[←Bool.not_eq_true];exact h3
     exact⟨_,rfl,_,_,rfl,rfl,cB,fun a ha=>kk [place+1] a ha (by unfold gk;rw[aa g1,aa g2,aPos g3])⟩
def Ua (K:W.Frag) (g:Insn→Bool):Sp:=fun vs H Q _=>∃(aA:V) (ins:Insn),vs=[aA]∧bf K H aA ins∧∀H',ah H H'→Q (.bl (g ins)) H'
theorem Ub (T:Txt P w K mg A) (g:Nat) (h:g<8):∃f,(CP A)[g]? =some (.ref f)∧pY P w K mg base 4 f ["ins"] (Ua K (uI g)):=by
 match g,h with
 |0,_=>exact⟨_,rfl,bS (Sj T) T.ji (by decide) fun _ _ _ _ ⟨v,i,e,f,q⟩=>⟨v,i,e,f,q _ (ah.refl _)⟩⟩
 |1,_=>exact⟨_,rfl,bS (Sm T) T.jN (by decide) fun _ _ _ _ ⟨v,i,e,f,q⟩=>⟨v,i,e,f,q _ (ah.refl _)⟩⟩
 |2,_=>exact⟨_,rfl,bS (Sq T) T.lX (by decide) fun _ _ _ _ ⟨v,i,e,f,q⟩=>⟨v,i,e,f,q _ (ah.refl _)⟩⟩
 |3,_=>exact⟨_,rfl,bS (Sv T) T.jO (by decide) fun _ _ _ _ ⟨v,i,e,f,q⟩=>⟨v,i,e,f,q _ (ah.refl _)⟩⟩
 |4,_=>exact⟨_,rfl,bS (II T) T.eU (by decide) fun _ _ _ _ ⟨v,i,e,f,q⟩=>⟨v,i,e,f,q⟩⟩
 |5,_=>exact⟨_,rfl,bS (Iv T) T.dM (by decide) fun _ _ _ _ ⟨v,i,e,f,q⟩=>⟨v,i,e,f,q _ (ah.refl _)⟩⟩
 |6,_=>exact⟨_,rfl,bS (Iv T) T.dM (by decide) fun _ _ _ _ ⟨v,i,e,f,q⟩=>⟨v,i,e,f,q _ (ah.refl _)⟩⟩
 |7,_=>exact⟨_,rfl,bS (II T) T.eU (by decide) fun _ _ _ _ ⟨v,i,e,f,q⟩=>⟨v,i,e,f,q⟩⟩
def Uc (K:W.Frag):Sp:=fun vs H Q _=>∃(bP:V) (p:List Insn) (place:Int),vs=[bP,.int place]∧dg K H bP p∧(0≤place∧place<(p.length:Int))∧∀H',ah H H'→Q (.bl (n9 p place)) H'
theorem uJ (i:Insn):i.cls<8:=Nat.mod_lt _ (by decide)
theorem IL:aI ["program","place","ins"] ["program","place"] (aG (top 108)):=aM
theorem Ud (T:Txt P w K mg A):Callee P w K mg base 5 "is_formed" ["program","place"] (Uc K):=by
 refine aT T.yw IL (fun _ _ _ _ _ _=>ln2 fun _ _=>by kernel_rfl) (fun _ _ _ _ h=>?_) (fun _ _ _ _ _ H vs Q E hr h=>?_)
 ·obtain⟨_,_,_,rfl,_⟩:=h
  rfl
 ·obtain⟨bP,p,place,rfl,cZ,hp,k⟩:=h
  refine⟨_,(au (bg (i:=2) IL.nd rfl (Or.inl rfl) (pD (pv 0) (pv 1)))
   (au (aN (gK (bI (wA (k:=4) (hr.mono (by decide)) (bX Cj (cY T.Ov) (az (pv 2)) (fun _ _=>rfl)) (af (pv 2) ai)) (fun _=>rfl))) (ak (ay lI)) aP)
   (au (aN (gq (aX (aO (az (pv 2)) (aU T.nI))) (gI (bY iG (aF bL (pv 1) aj) (bZ eO (by rfl) T.d8 boot_len (af (CI (pv 0)) ai)) (bz _)))).pt
    (ak (ay (aE (SE T) (hr.mono (by decide)) (af (pD (pv 0) (aF bL (pv 1) aj)) ai)))) aP)
   (ak (ay lI))))),?_⟩
  try dsimp only[aad]
  refine⟨_,rfl,_,cZ,_,rfl,ah.refl _,_,_,rfl,hp.1,mj (by lia),fun u1 i1=>?_⟩
  obtain⟨f,v1,fd,r1,r2,r3⟩:=Ub (base:=base) T (p.getD place.toNat aW).cls (uJ _)
  refine⟨_,rfl,_,i1.gT,_,_,_,_,rfl,rfl,T.zF _,ic v1,_,rfl,r1,_,rfl,fd,_,_,r2,r3,_,_,rfl,i1,fun H1 s1=>?_⟩
  refine⟨_,rfl,?_⟩
  have f1:=cZ.mono s1
  have i2:=i1.mono s1
  refine mh (fun h1=>?_) (fun h1=>?_)
  ·have g1:¬uI (p.getD place.toNat aW).cls (p.getD place.toNat aW)=false:=by rw[h1];decide
   have q:=k H1 s1
   unfold n9 at q
   rw[aa g1]at q
   refine⟨_,rfl,_,i2.eF,_,_,rfl,rfl,_,rfl,?_⟩
   refine ao (fun h2=>?_) (fun h2=>?_)
   ·have g2:(p.getD place.toNat aW).code=24:=by have:=aZ h2;lia
    refine⟨_,rfl,_,_,rfl,rfl,_,rfl,_,f1,fun a vs ha hv=>?_⟩
    refine⟨_,_,rfl,Or.inl (aJ.of ha),_,_,rfl,rfl,_,rfl,?_⟩
    have hl:=Paired.len hv
    refine ao (fun h3=>?_) (fun h3=>?_)
    ·have g3:=aZ h3
     rw[hl]at g3
     rw[aPos ⟨g2,g3⟩]at q
     exact⟨_,rfl,_,f1,_,rfl,_,_,rfl,rfl,ah.refl _,_,_,rfl,by lia,mj (by lia),fun u3 i3=>⟨_,_,rfl,i3,q⟩⟩
    ·have g3:¬(place+1<(vs.length:Int)):=fun z=>h3 (bq z)
     rw[hl]at g3
     rw[aa (fun z=>g3 z.2)]at q
     exact q
   ·have g2:¬(p.getD place.toNat aW).code=24:=fun z=>h2 (bq (by lia))
    rw[aa (fun z=>g2 z.1)]at q
    exact dw q
  ·have g1:uI (p.getD place.toNat aW).cls (p.getD place.toNat aW)=false:=by rw[←Bool.not_eq_true];exact h1
   have q:=k H1 s1
   unfold n9 at q
   rw[aPos g1]at q
   exact q
theorem uK {σ:L2.St} {H:Hp} {A B:Hp→Prop} (h:A H):Gx σ H fun b H3=>if b=true then A H3 else B H3:=by
 show if true=true then A H else B H
 exact cA h
def Ue (K:W.Frag):Sp:=fun vs H Q _=>∃(bP:V) (p:List Insn) (place:Int),vs=[bP,.int place]∧dg K H bP p∧(0≤place∧place<(p.length:Int))∧∀H',ah H H'→Q (.int (j0 p place)) H'
theorem Ug (ins:Insn) (place:Int):(gk ins place).length≤2:=by
 unfold gk
 split
 ·simp
 ·split
  ·simp
  ·split
   ·simp
   ·split<;>simp
theorem AS:aI ["program","place","ins","behind"] ["program","place"] (aG (top 111)):=aM
theorem Uh (T:Txt P w K mg A):Callee P w K mg base 6 "fault_at" ["program","place"] (Ue K):=by
 refine aT T.yz AS (fun _ _ _ _ _ _=>ln2 fun _ _=>by kernel_rfl) (fun _ _ _ _ h=>?_) (fun _ _ _ _ _ H vs Q E hr h=>?_)
 ·obtain⟨_,_,_,rfl,_⟩:=h
  rfl
 ·obtain⟨bP,p,place,rfl,cZ,hp,k⟩:=h
  refine⟨_,(au (bg (i:=2) AS.nd rfl (Or.inl rfl) (pD (pv 0) (pv 1)))
   (au (aN (gK (bI (aE (Ud T) (hr.mono (by decide)) (af (pv 0) (af (pv 1) ai))) (fun _=>rfl))) (ak (ay (gM gO aj))) aP)
   (au (aN (bI (aE (SM T) (hr.mono (by decide)) (af (pv 2) ai)) (fun _=>rfl)) (ak (ay (gM gO aj))) aP)
   (au (aN (gK (bI (bZ (Cr rfl) (by rfl) T.tU boot_all (af (tG (own:=[("behind",3)]) rfl AS.nd (sH (aE (T9 T) (hr.mono (by decide)) (af (pv 2) (af (pv 1) ai)))) (tH (by kernel_rfl))
     (fun _ _ _ _ _=>gf (i:=3) AS.nd rfl (Or.inl rfl)) (fun _ _ _ _ _=>tF) (fun _ _ _ _ _=>aE (IK T) (hr.mono (by decide)) (af (pv 0) (af (pv 3) ai)))) ai)) (fun _=>rfl))) (ak (ay (gM gO aj))) aP)
   (ak (ay aj)))))),?_⟩
  try dsimp only[aad]
  refine⟨_,rfl,_,cZ,_,rfl,ah.refl _,_,_,rfl,hp.1,mj (by lia),fun u1 i1=>?_⟩
  refine⟨_,rfl,_,rfl,_,_,_,rfl,cZ,hp,fun H1 s1=>⟨_,rfl,?_⟩⟩
  have f1:=cZ.mono s1
  have i2:=i1.mono s1
  unfold j0 at k
  refine mh (fun h1=>?_) (fun h1=>?_)
  ·have g1:¬n9 p place=false:=by rw[h1];decide
   rw[aa g1]at k
   refine⟨_,rfl,_,_,rfl,i2,_,rfl,?_⟩
   refine ao (fun h2=>?_) (fun h2=>?_)
   ·rw[aPos h2]at k
    exact⟨_,rfl,k _ s1⟩
   ·rw[aa h2]at k
    refine⟨_,rfl,_,rfl,_,_,_,rfl,i2,fun a H2 s2 ha=>?_⟩
    refine⟨a,rfl,⟨_,aJ.of ha⟩,fun D hD=>?_⟩
    have hne:a≠D:=aY ha hD
    refine GI (a:=a) (xs:=(gk (p.getD place.toNat aW) place).map V.int) (fun i H'=>ah H2 H'∧H' D=some (.lst (((gk (p.getD place.toNat aW) place).take i).map fun z=>V.bl (gX p z))))
     ⟨ah.new hD,aH⟩ (fun i H' _ ⟨z,_⟩=>aJ.of (z _ _ ha)) ?_ ?_
    ·rintro i x H' hx ⟨z,hz⟩
     rw[List.getElem?_map]at hx
     obtain⟨y,hy,rfl⟩:=Option.map_eq_some_iff.mp hx
     refine⟨rfl,uK ?_⟩
     have fp:=(f1.mono s2).mono z
     have hil:i<(gk (p.getD place.toNat aW) place).length:=(List.getElem?_eq_some_iff.mp hy).1
     have hl2:=Ug (p.getD place.toNat aW) place
     refine⟨_,rfl,_,rfl,_,_,_,rfl,fp,_,hz,?_,fun b o e=>?_,?_⟩
     ·rw[List.length_map,List.length_take]
      exact Nat.lt_of_le_of_lt (Nat.min_le_right _ _) (Nat.lt_of_le_of_lt hl2 (by decide))
     ·rw[aL (aY e hD)]
      exact z b o e
     ·rw[aH,List.take_add_one,hy,List.map_append]
      rfl
    ·rintro H' ⟨z,hz⟩
     rw[List.length_map,List.take_length]at hz
     have sm:ah H H':=ah.trans s1 (ah.trans s2 z)
     refine⟨D,(gk (p.getD place.toNat aW) place).map (gX p),rfl,aJ.of (by rw[List.map_map];exact hz),_,rfl,?_⟩
     refine mh (fun h3=>?_) (fun h3=>?_)
     ·rw[aa (by rw[h3];decide)]at k
      exact k _ sm
     ·rw[aPos (by rw[←Bool.not_eq_true];exact h3)]at k
      exact⟨_,rfl,k _ sm⟩
  ·have g1:n9 p place=false:=by rw[←Bool.not_eq_true];exact h1
   rw[aPos g1]at k
   exact⟨_,rfl,k _ s1⟩
def Ui (K:W.Frag):Sp:=fun vs H Q _=>∃(bP:V) (p:List Insn),vs=[bP]∧dg K H bP p∧∀a H',ah H H'→H a=none→H' a=some (.lst ((gy p p.length).map V.int))→Q (.ref a) H'
theorem Uj {p:List Insn} {n:Nat} {l:List Int} (h:gy p n=l) (hl:l≠[]):∀m,n≤m→gy p m=l:=by
 intro m hm
 induction m with
 |zero=>
  have:n=0:=by lia
  subst this
  exact h
 |succ m ih=>
  by_cases e:n=m+1
  ·subst e;exact h
  ·have q:=ih (by lia)
   show(match gy p m with|[]=>_|x::l=>x::l)=l
   rw[q]
   cases l with
   |nil=>exact absurd rfl hl
   |cons x r=>rfl
theorem DF:aI ["program","place","fault"] ["program"] (aG (top 112)):=aM
theorem Uk (T:Txt P w K mg A):Callee P w K mg base 7 "first_fault" ["program"] (Ui K):=by
 refine aT T.yC DF (fun _ _ _ _ _ _=>Z9 fun _=>by kernel_rfl) (fun _ _ _ _ h=>?_) (fun _ _ _ _ _ H vs Q E hr h=>?_)
 ·obtain⟨_,_,rfl,_⟩:=h
  rfl
 ·obtain⟨bP,p,rfl,cZ,k⟩:=h
  refine⟨_,(au (kL PassesOwn.never rfl (qF rfl T.jh (af (bZ eO (by rfl) T.d8 boot_len (af (CI (pv 0)) ai)) ai)) (gf (i:=1) DF.nd rfl (Or.inl rfl))
    (ak (aN (bI (bX bR (CH (pv 0)) (pv 1) (fun _ _=>rfl)) (fun _=>rfl)) (au (bg (i:=2) DF.nd rfl (Or.inl rfl) (aE (Uh T) (hr.mono (by decide)) (af (pv 0) (af (pv 1) ai))))
     (ak (aN (aX (gp (pv 2) aj)) (ak (ay (bO (af (pv 2) (af (pv 1) ai))))) aP))) aP)))
   (ak (ay (bO ai)))),?_⟩
  try dsimp only[aad]
  refine⟨_,rfl,_,cZ,fun a vs ha hv=>?_⟩
  have hl:=Paired.len hv
  have hp:=cZ.len
  refine⟨_,_,rfl,Or.inl (aJ.of ha),_,rfl,by lia,by lia,oZ (lo:=0) (n:=((vs.length:Nat):Int).toNat) (fun i σ H'=>∃v1 v2,σ=[some bP,v1,v2]∧ah H H'∧gy p i=[]) ⟨none,none,rfl,ah.refl _,rfl⟩ ?_ ?_⟩
  ·rintro i σ H' hi ⟨v1,v2,rfl,sm,e⟩
   have f1:=cZ.mono sm
   have hi2:i<p.length:=by lia
   refine⟨_,rfl,_,f1,fun b hb=>⟨_,rfl,_,_,_,V.bl (Path.begins p i),rfl,rfl,aJ.of hb,jf (by lia) ?_,Path.begins p i,rfl,?_⟩⟩
   ·have e0:((0:Int)+(i:Int)).toNat=i:=by lia
    rw[e0,List.getElem?_map]
    have hl:i<(beginsFrom false p).length:=by rw[lS];lia
    rw[List.getElem?_eq_getElem hl]
    unfold Path.begins
    rw[List.getD_eq_getElem?_getD,List.getElem?_eq_getElem hl]
    rfl
   ·have e0:(0:Int)+(i:Int)=(i:Int):=by lia
    refine ao (fun h1=>?_) (fun h1=>?_)
    ·refine⟨_,rfl,_,rfl,_,_,_,rfl,f1,by lia,fun H1 s1=>?_⟩
     rw[e0]
     refine⟨_,rfl,_,_,rfl,rfl,_,rfl,?_⟩
     refine ao (fun h2=>?_) (fun h2=>?_)
     ·have g2:j0 p (i:Int)≠0:=by simpa using h2
      refine⟨_,rfl,_,rfl,iw,fun q hq=>k q _ (ah.trans sm (ah.trans s1 (ah.new hq))) (ah.free (ah.trans sm s1) hq) ?_⟩
      have e1:gy p (i+1)=[j0 p (i:Int),(i:Int)]:=by
       show(match gy p i with|[]=>_|x::l=>x::l)=_
       rw[e]
       exact aPos ⟨h1,g2⟩
      rw[Uj e1 (by simp) p.length (by lia),aH]
      rfl
     ·have g2:j0 p (i:Int)=0:=by simpa using h2
      refine⟨_,_,rfl,ah.trans sm s1,?_⟩
      show(match gy p i with|[]=>_|x::l=>x::l)=_
      rw[e]
      exact aa fun z=>z.2 g2
    ·refine⟨_,_,rfl,sm,?_⟩
     show(match gy p i with|[]=>_|x::l=>x::l)=_
     rw[e]
     exact aa fun z=>h1 z.1
  ·rintro σ H' ⟨v1,v2,rfl,sm,e⟩
   refine⟨uH,fun q hq=>k q _ (ah.trans sm (ah.new hq)) (ah.free sm hq) ?_⟩
   have e2:((vs.length:Nat):Int).toNat=p.length:=by lia
   rw[e2]at e
   rw[e,aH]
   rfl
theorem eX {n:Nat} {k:Int} (h0:0≤k) (h:k<(n:Int)):lQ n k=some k.toNat:=by
 unfold lQ
 rw[aPos h0,aPos h]
theorem Paired.iy {α β:Type} {F:α→β→Prop} {x:α} {y:β} (r:F x y):∀{l₁:List α} {l₂:List β} (i:Nat),Paired F l₁ l₂→Paired F (l₁.set i x) (l₂.set i y)
 |_,_,_,.nil=> .nil
 |_,_,0,.cons _ t=> .cons r t
 |_,_,i+1,.cons q t=> .cons q (Paired.iy r i t)
theorem AU {H:Hp} {q:Addr} {vs:List V} {l:List S3} (hq:H q=none) (hv:Paired (aQ K H) vs l) (hl:l.length=75):cE K (upd H q (.lst vs)) (.ref q) l:=
 ⟨q,vs,rfl,aH,Paired.ck hv fun _ _ z=>z.mono (ah.new hq),hl⟩
theorem dU.mono {H H':Hp} {v:V} {o:Option (List S3)} (h:dU K H v o) (s:ah H H'):dU K H' v o:=by
 cases o with
 |none=>exact h
 |some l=>exact cE.mono h s
def fV (H:Hp) (v:V):Prop:=∀z,v= .ref z→H z=none
theorem rK {H H1:Hp} {q:Addr} (sm:ah H H1) (hq:H1 q=none):fV H (.ref q):=fun z e=>by
 cases e
 exact ah.free sm hq
theorem fV.back {H H1:Hp} {v:V} (h:fV H1 v) (sm:ah H H1):fV H v:=fun z e=>ah.free sm (h z e)
def pZ (r:Str):Prop:=r="=="∨r="!="∨r=">"∨r=">="∨r="<"∨r="<="
theorem Ul {r:Str} (h:pZ r):c8 wH (Sum.inr r)=some (.str (uy r)):=by
 rcases h with rfl|rfl|rfl|rfl|rfl|rfl<;>rfl
theorem Um {r:Str} (h:pZ r):c8 wG (Sum.inr r)=some (.str (AJ r)):=by
 rcases h with rfl|rfl|rfl|rfl|rfl|rfl<;>rfl
theorem Uo {r:Str} (h:pZ r):pZ (AJ r):=by
 rcases h with rfl|rfl|rfl|rfl|rfl|rfl
 ·exact Or.inr (Or.inl rfl)
 ·exact Or.inl rfl
 ·exact Or.inr (Or.inr (Or.inr (Or.inr (Or.inr rfl))))
 ·exact Or.inr (Or.inr (Or.inr (Or.inr (Or.inl rfl))))
 ·exact Or.inr (Or.inr (Or.inr (Or.inl rfl)))
 ·exact Or.inr (Or.inr (Or.inl rfl))
def Up (K:W.Frag):Sp:=fun vs H Q _=>∃(aA:V) (ins:Insn) (bH:V) (l:List S3) (cu:V) (x:S3) (rel:Str),vs=[aA,bH,cu,.str rel]∧bf K H aA ins∧cE K H bH l∧aQ K H cu x∧pZ rel∧
 ∀v H',ah H H'→fV H v→dU K H' v (p5 ins l x rel)→Q v H'
def Uq (K:W.Frag):TS:=eN (nk (Fx (fun σ H Q=>fR (Du K) [] E0 (bW (bh 5) cK) σ H fun x H'=>∃k,jJ K x H' k∧Q k H') (fun σ H Q=>fR (Du K) [] E0 (bW (bh 6) cK) σ H fun x H'=>∃k,jJ K x H' k∧Q k H')) (kK (tC .aK)) qC)
 (eN (lJ (vY (fun xs H Q=>∃p ys,xs=[.ref p]∧(aJ K H p ys∨cI K H p ys)∧∀l,H l=none→Q (.ref l) (upd H l (.lst ys))) (bW (bh 1) cK)) (qE 7))
 (eN (lJ (bh 5) (oW (bh 7) (eT K (bh 0) "dst") o9)) (eN (nk (fun σ H Q=>eT K (bh 0) "from_src" σ H fun x H'=>∃k,jJ K x H' k∧Q k H') (lJ (bh 6) (oW (bh 7) (eT K (bh 0) "src") o9)) qC) (kK (bh 7)))))
theorem DG {Q:VK} {aA bH cu u0 va vb:V} {ins:Insn} {l:List S3} {x:S3} {rel:Str} {H H3:Hp} (aq:bf K H aA ins) (cz:cE K H bH l) (k:∀v H',ah H H'→fV H v→dU K H' v (p5 ins l x rel)→Q v H')
  (sm:ah H H3) (fa:aQ K H3 va (j9 ins l x rel).1) (fb:aQ K H3 vb (j9 ins l x rel).2):
  Uq K {nx:=fun _ H'=>Q .aK H',rt:=Q} [some aA,some bH,some cu,some (.str rel),some u0,some va,some vb,none] H3:=by
 have qs:=aq.ok.src
 have qd:=aq.ok.dst
 have fi:=aq.mono sm
 unfold p5 at k
 refine⟨_,rfl,_,_,rfl,fa,_,rfl,?_⟩
 refine ao (fun h1=>?_) (fun h1=>?_)
 ·refine cA ?_
  rw[aPos (Or.inl h1)]at k
  exact k _ _ sm (fun z e=>nomatch e) rfl
 ·refine⟨_,rfl,_,_,rfl,fb,_,rfl,?_⟩
  refine ao (fun h2=>?_) (fun h2=>?_)
  ·rw[aPos (Or.inr h2)]at k
   exact k _ _ sm (fun z e=>nomatch e) rfl
  ·rw[aa (fun z=>z.elim h1 h2)]at k
   obtain⟨p,vs,rfl,e1,e2,e3⟩:=cz.mono sm
   have hl:vs.length=75:=(Paired.len e2).trans e3
   refine⟨_,rfl,_,_,rfl,Or.inl (aJ.of e1),fun q hq=>?_⟩
   have sq:ah H3 (upd H3 q (.lst vs)):=ah.new hq
   refine⟨_,rfl,_,rfl,_,rfl,_,(fi.mono sq).bA,_,_,_,_,rfl,rfl,aH,eX (by lia) (by rw[hl];lia),?_⟩
   rw[dj]
   have AV:∀ws,ah H3 (upd H3 q (.lst ws)):=fun ws=>ah.new hq
   refine⟨_,rfl,_,(fi.mono (AV _)).nG,_,rfl,?_⟩
   refine ao (fun h3=>?_) (fun h3=>?_)
   ·refine⟨_,rfl,_,rfl,_,rfl,_,(fi.mono (AV _)).ff,_,_,_,_,rfl,rfl,aH,eX (by lia) (by rw[List.length_set,hl];lia),?_⟩
    rw[dj]
    refine⟨_,rfl,k _ _ (ah.trans sm (AV _)) (rK sm hq) ?_⟩
    rw[aPos h3]
    exact AU hq (Paired.iy fb _ (Paired.iy fa _ e2)) (by rw[List.length_set,List.length_set];exact e3)
   ·refine⟨_,rfl,k _ _ (ah.trans sm (AV _)) (rK sm hq) ?_⟩
    rw[aa h3]
    exact AU hq (Paired.iy fa _ e2) (by rw[List.length_set];exact e3)
theorem p6:aI ["ins","state","x","relation","dst","dst_left","x_left","after"] ["ins","state","x","relation"] (aG (top 74)):=aM
theorem IM (T:Txt P w K mg A):Callee P w K mg base 3 "way_on" ["ins","state","x","relation"] (Up K):=by
 refine aT T.x9 p6 (fun _ _ _ _ _ _=>ln4 fun _ _ _ _=>by kernel_rfl) (fun _ _ _ _ h=>?_) (fun _ _ _ _ _ H vs Q E hr h=>?_)
 ·obtain⟨_,_,_,_,_,_,_,rfl,_⟩:=h
  rfl
 ·obtain⟨aA,ins,bH,l,cu,x,rel,rfl,aq,cz,bG,Ur,k⟩:=h
  have qs:=aq.ok.src
  have qd:=aq.ok.dst
  refine⟨_,(au (bg (i:=4) p6.nd rfl (Or.inl rfl) (lR (pv 1) (az (pv 0)))) (au (bg (i:=5) p6.nd rfl (Or.inl rfl) (aE (Dt T) (hr.mono (by decide)) (af (pv 4) (af (pv 3) (af (pv 2) ai))))) (au (bg (i:=6) p6.nd rfl (Or.inl rfl) (aE (Dt T) (hr.mono (by decide)) (af (pv 2) (af (nE (cY T.OC) (pv 3)) (af (pv 4) ai))))) (au (aN (gq (bI (az (pv 0)) (fun _=>rfl)) (gI (aX (aO (az (pv 0)) (az (pv 0)))))).pt (au (bg (i:=5) p6.nd rfl (Or.inl rfl) (aE (Dt T) (hr.mono (by decide)) (af (pv 5) (af jG (af (pv 6) ai))))) (ak (bg (i:=6) p6.nd rfl (Or.inl rfl) (pv 5)))) aP) (au (aN (gJ (bI (aE (Im T) (hr.mono (by decide)) (af (pv 5) ai)) (fun _=>rfl)) (i8 (bI (aE (Im T) (hr.mono (by decide)) (af (pv 6) ai)) (fun _=>rfl)))).pt (ak (ay dO)) aP) (au (bg (i:=7) p6.nd rfl (Or.inl rfl) (lO pq (by rfl) T.kR boot_list (af (pv 1) ai))) (au (fc (pv 5) (eZ (pv 7) (az (pv 0)) set_list)) (au (aN (bI (az (pv 0)) (fun _=>rfl)) (ak (fc (pv 6) (eZ (pv 7) (az (pv 0)) set_list))) aP) (ak (ay (pv 7))))))))))),?_⟩
  try dsimp only[aad]
  refine⟨_,rfl,_,rfl,_,aq.bA,_,_,cz,rfl,⟨by lia,by lia⟩,fun u0 i0=>?_⟩
  refine⟨_,rfl,_,rfl,_,rfl,_,_,_,_,_,rfl,i0,bG,fun v1 H1 s1 f1=>?_⟩
  have Us:=i0.mono s1
  have Ut:=bG.mono s1
  refine⟨_,rfl,_,rfl,_,_,Sum.inr _,_,rfl,T.zL,rfl,Ul Ur,_,rfl,_,_,_,_,_,rfl,Ut,Us,fun v2 H2 s2 f2=>?_⟩
  have fi:=aq.mono (ah.trans s1 s2)
  have e0:((ins.dst:Nat):Int).toNat=ins.dst:=by lia
  rw[e0]at f1 f2
  refine⟨_,rfl,_,fi.nG,_,rfl,?_⟩
  refine ao (fun h1=>?_) (fun h1=>?_)
  ·refine⟨_,rfl,_,fi.ff,_,rfl,_,fi.bA,_,_,rfl,rfl,_,rfl,?_⟩
   refine ao (fun h2=>?_) (fun h2=>?_)
   ·have g2:ins.src=ins.dst:=by have:=aZ h2;lia
    refine⟨_,rfl,_,rfl,_,_,_,_,_,rfl,f1.mono s2,f2,fun v3 H3 s3 f3=>⟨_,rfl,?_⟩⟩
    have e:j9 ins l x rel=_:=aPos ⟨h1,g2⟩
    exact DG aq cz k (ah.trans s1 (ah.trans s2 s3)) (by rw[e];exact f3) (by rw[e];exact f3)
   ·have g2:¬ins.src=ins.dst:=fun z=>h2 (bq (by lia))
    have e:j9 ins l x rel=_:=aa fun z=>g2 z.2
    exact DG aq cz k (ah.trans s1 s2) (by rw[e];exact f1.mono s2) (by rw[e];exact f2)
  ·refine dw ?_
   have e:j9 ins l x rel=_:=aa fun z=>h1 z.1
   exact DG aq cz k (ah.trans s1 s2) (by rw[e];exact f1.mono s2) (by rw[e];exact f2)
theorem Uu {ins:Insn} {d x:S3} (h:ig ins d x=true):(c8 iJ (Sum.inl ((ins.op:Nat):Int))).isSome=true:=by
 unfold ig at h
 by_cases c:(c8 iJ (Sum.inl ((ins.op:Nat):Int))).isSome=true
 ·exact c
 ·rw[Bool.not_eq_true]at c
  rw[c]at h
  simp at h
theorem Uv {x:Int} (h:(c8 iJ (Sum.inl x)).isSome=true):pZ (pV x):=by
 have e:=kZ h
 obtain⟨p,hp,q⟩:=Ie e
 simp only[iJ,List.mem_cons,List.not_mem_nil,or_false]at hp
 unfold pZ
 rcases hp with rfl|rfl|rfl|rfl|rfl|rfl|rfl|rfl|rfl|rfl<;>(injection q with q;rw[←q];decide)
def Uw (K:W.Frag):Sp:=fun vs H Q _=>∃(aA:V) (ins:Insn) (bH:V) (l:List S3),vs=[aA,bH]∧bf K H aA ins∧cE K H bH l∧
 ∀a v1 v2 H',ah H H'→H' a=some (.lst [v1,v2])→(fV H v1∨v1=bH)→(fV H v2∨v2=bH)→dU K H' v1 (p7 ins l).1→dU K H' v2 (p7 ins l).2→Q (.ref a) H'
theorem DH:aI ["ins","state","x","relation"] ["ins","state"] (aG (top 76)):=aM
theorem Ux (T:Txt P w K mg A):Callee P w K mg base 4 "both_ways" ["ins","state"] (Uw K):=by
 refine aT T.yb DH (fun _ _ _ _ _ _=>ln2 fun _ _=>by kernel_rfl) (fun _ _ _ _ h=>?_) (fun _ _ _ _ _ H vs Q E hr h=>?_)
 ·obtain⟨_,_,_,_,rfl,_⟩:=h
  rfl
 ·obtain⟨aA,ins,bH,l,rfl,aq,cz,k⟩:=h
  have qd:=aq.ok.dst
  have e0:((ins.dst:Nat):Int).toNat=ins.dst:=by omega
  refine⟨_,(au (bg (i:=2) DH.nd rfl (Or.inl rfl) (aE (Il T) (hr.mono (by decide)) (af (pv 0) (af (pv 1) ai)))) (au (aN (gK (bI (aE (R8 T) (hr.mono (by decide)) (af (pv 0) (af (lR (pv 1) (az (pv 0))) (af (pv 2) ai)))) (fun _=>rfl))) (ak (ay (bO (af (pv 1) (af (pv 1) ai))))) aP) (au (bg (i:=3) DH.nd rfl (Or.inl rfl) (nE (cY T.zJ) (az (pv 0)))) (ak (ay (bO (af (aE (IM T) (hr.mono (by decide)) (af (pv 0) (af (pv 1) (af (pv 2) (af (pv 3) ai))))) (af (aE (IM T) (hr.mono (by decide)) (af (pv 0) (af (pv 1) (af (pv 2) (af (nE (cY T.OB) (pv 3)) ai))))) ai)))))))),?_⟩
  try dsimp only[aad]
  refine⟨_,rfl,_,rfl,_,_,_,_,rfl,aq,cz,fun v1 H1 s1 f1=>?_⟩
  have fi:=aq.mono s1
  have fs:=cz.mono s1
  refine⟨_,rfl,_,rfl,_,rfl,_,fi.bA,_,_,fs,rfl,⟨by omega,by omega⟩,fun u2 i2=>?_⟩
  refine⟨_,rfl,_,_,_,_,_,_,rfl,fi,i2,f1,_,rfl,?_⟩
  rw[e0]
  unfold p7 at k
  refine mh (fun h1=>?_) (fun h1=>?_)
  ·rw[aa (by rw[h1];decide)]at k
   have hr1:=Uu h1
   have hr2:=Uv hr1
   refine⟨_,rfl,_,fi.b9,_,_,Sum.inl _,_,rfl,T.iK,rfl,kZ hr1,?_⟩
   refine⟨_,rfl,_,rfl,_,rfl,_,rfl,_,_,_,_,_,_,_,rfl,fi,fs,f1,hr2,fun v3 H3 s3 n3 f3=>?_⟩
   refine⟨_,rfl,_,rfl,_,rfl,_,rfl,_,_,Sum.inr _,_,rfl,T.zK,rfl,Um hr2,_,_,_,_,_,_,_,rfl,fi.mono s3,fs.mono s3,f1.mono s3,Uo hr2,fun v4 H4 s4 n4 f4=>⟨iw,fun q hq=>?_⟩⟩
   have sq:ah H4 (upd H4 q (.lst [v3,v4])):=ah.new hq
   exact k q v3 v4 _ (ah.trans s1 (ah.trans s3 (ah.trans s4 sq))) aH (.inl (n3.back s1)) (.inl (n4.back (ah.trans s1 s3))) ((f3.mono s4).mono sq) (f4.mono sq)
  ·rw[aPos (by rw[←Bool.not_eq_true];exact h1)]at k
   refine⟨_,rfl,_,rfl,iw,fun q hq=>?_⟩
   have sq:ah H1 (upd H1 q (.lst [bH,bH])):=ah.new hq
   exact k q _ _ _ (ah.trans s1 sq) aH (.inr rfl) (.inr rfl) (fs.mono sq) (fs.mono sq)
def Uy (K:W.Frag):Sp:=fun vs H Q _=>∃(aA:V) (ins:Insn) (p8:V) (s:S3),vs=[aA,p8]∧bf K H aA ins∧aQ K H p8 s∧rL ins s∧∀a H',ah H H'→H' a=some (.lst ((fM ins s).map V.int))→Q (.ref a) H'
theorem IP:aI ["ins","address","first"] ["ins","address"] (aG (top 121)):=aM
theorem IQ (T:Txt P w K mg A):Callee P w K mg base 1 "pieces_touched" ["ins","address"] (Uy K):=by
 refine aT T.yJ IP (fun _ _ _ _ _ _=>ln2 fun _ _=>by kernel_rfl) (fun _ _ _ _ h=>?_) (fun _ _ _ _ _ H vs Q E _ h=>?_)
 ·obtain⟨_,_,_,_,rfl,_⟩:=h
  rfl
 ·obtain⟨aA,ins,p8,s3,rfl,aq,AW,hs,k⟩:=h
  have qz:=nU ins
  refine⟨_,au (aN (aX (gp (dZ (pv 1)) (aU T.jM))) (ak (ay (bO ai))) aP)<|
   au (bg (i:=2) IP.nd rfl (Or.inl rfl) (aF bL (cU (pv 1)) (az (pv 0))))<|
   ak (ay (lO (Oh rfl) (by rfl) T.kR boot_list (af (lO Of (by rfl) T.jh boot_range (af (aF bL (aU T.tN) (aF pB (pv 2) aj)) (af (aF bL (aF bL (aU T.tN) (aF pB (aF fF (aF bL (pv 2) (az (pv 0))) aj) aj)) aj) ai))) ai))),?_⟩
  try dsimp only[aad]
  refine⟨_,rfl,_,AW,_,_,rfl,rfl,_,rfl,?_⟩
  unfold fM at k
  refine ao (fun h1=>?_) (fun h1=>?_)
  ·have g1:s3.1≠2:=by simpa using h1
   rw[aPos g1]at k
   exact⟨uH,fun q hq=>k q _ (ah.new hq) aH⟩
  ·have g1:s3.1=2:=by simpa using h1
   rw[aa (fun z=>z g1)]at k
   have hb:=hs g1
   refine⟨_,rfl,_,AW,_,rfl,_,aq.dz,_,_,rfl,rfl,_,rfl,_,_,rfl,rfl,⟨by decide,by decide⟩,_,_,rfl,rfl,_,rfl,_,rfl,_,aq.fG,_,_,rfl,rfl,_,_,rfl,rfl,_,_,rfl,rfl,⟨by decide,by decide⟩,_,_,rfl,rfl,_,_,rfl,rfl,_,_,rfl,fun q hq=>?_⟩
   refine⟨q,_,_,rfl,aH,⟨by dsimp only;omega,by dsimp only;omega,by dsimp only;omega,by dsimp only;omega⟩,Nat.le_trans (m:=512) (by dsimp only;omega) (by decide),fun a ha=>?_⟩
   have s1:ah H (upd H q (.oN (11+(s3.2.1+ins.off)/8) (11+(s3.2.1+ins.off+(ins.size:Int)-1)/8+1))):=ah.new hq
   refine k a _ (ah.trans s1 (ah.new ha)) ?_
   rw[aH,List.map_map]
   rfl
def Uz (K:W.Frag):Sp:=fun vs H Q _=>∃(aA:V) (ins:Insn) (bH:V) (l:List S3),vs=[aA,bH]∧bf K H aA ins∧cE K H bH l∧rL ins (dI ins l)∧∀v H',ah H H'→aQ K H' v (AX ins l)→Q v H'
theorem UA {ins:Insn} {s:S3} (h:ir ins s=true):s.1=2∧ins.size=8∧(s.2.1+ins.off)%8=0:=by
 unfold ir at h
 by_cases a:s.1=2
 ·by_cases b:(((ins.size:Nat):Int)=8)
  ·simp[a,b]at h
   exact⟨a,by lia,by lia⟩
  ·simp[a,b]at h
 ·simp[a]at h
theorem IS:aI ["ins","state","address"] ["ins","state"] (aG (top 122)):=aM
theorem UB (T:Txt P w K mg A):Callee P w K mg base 3 "loaded" ["ins","state"] (Uz K):=by
 refine aT T.yK IS (fun _ _ _ _ _ _=>ln2 fun _ _=>by kernel_rfl) (fun _ _ _ _ h=>?_) (fun _ _ _ _ _ H vs Q E hr h=>?_)
 ·obtain⟨_,_,_,_,rfl,_⟩:=h
  rfl
 ·obtain⟨aA,ins,bH,l,rfl,aq,cz,hs,k⟩:=h
  have qz:=nU ins
  refine⟨_,(au (bg (i:=2) IS.nd rfl (Or.inl rfl) (aE (AM T) (hr.mono (by decide)) (af (pv 0) (af (pv 1) ai)))) (au (aN (bI (aE (IA T) (hr.mono (by decide)) (af (pv 0) (af (pv 2) ai))) (fun _=>rfl)) (ak (ay (lR (pv 1) (bX bR (aE (IQ T) (hr.mono (by decide)) (af (pv 0) (af (pv 2) ai))) aj (fun _ _=>rfl))))) aP) (ak (ay (cN (aX (aO (az (pv 0)) aj)) (aE (iM T) (hr.mono (by decide)) (af (aF iF aj (az (pv 0))) ai)) (cY T.kQ)))))),?_⟩
  try dsimp only[aad]
  refine⟨_,rfl,_,rfl,_,_,_,_,rfl,aq,cz,fun u1 i1=>?_⟩
  refine⟨_,rfl,_,rfl,_,_,_,_,rfl,aq,i1,_,rfl,?_⟩
  unfold AX at k
  refine ao (fun h1=>?_) (fun h1=>?_)
  ·rw[aPos h1]at k
   obtain⟨w1,w2,w3⟩:=UA h1
   have hb:=hs w1
   refine⟨_,rfl,_,rfl,_,rfl,_,_,_,_,rfl,aq,i1,hs,fun a H1 s1 ha=>?_⟩
   have et:fM ins (dI ins l)=[11+((dI ins l).2.1+ins.off)/8]:=by
    unfold fM
    rw[aa (fun z=>z w1),w2]
    have e:(((11+((dI ins l).2.1+ins.off+((8:Nat):Int)-1)/8+1)-(11+((dI ins l).2.1+ins.off)/8)).toNat)=1:=by lia
    rw[e]
    simp
   rw[et]at ha
   refine⟨_,_,_,_,rfl,rfl,aJ.of ha,rfl,_,_,cz.mono s1,rfl,⟨by lia,by lia⟩,fun u2 i2=>?_⟩
   exact k _ _ s1 i2
  ·rw[aa h1]at k
   refine⟨_,rfl,_,aq.pC,_,_,rfl,rfl,_,rfl,?_⟩
   refine ao (fun h2=>?_) (fun h2=>?_)
   ·rw[aPos (by have:=aZ h2;lia)]at k
    refine⟨_,rfl,_,aq.fG,_,_,rfl,rfl,Or.inl ⟨by decide,by decide⟩,_,rfl,(by lia),fun v1 H1 s1 f1=>k _ _ s1 f1⟩
   ·rw[aa (fun z=>h2 (bq (by lia)))]at k
    exact k _ _ (ah.refl _) (T.dG _)
def UC (K:W.Frag):Sp:=fun vs H Q _=>∃(aA:V) (ins:Insn) (bH:V) (l:List S3) (p8:V) (s:S3),vs=[aA,bH,p8]∧bf K H aA ins∧cE K H bH l∧aQ K H p8 s∧∀v H',ah H H'→fV H v→cE K H' v (l.set ins.dst s)→Q v H'
theorem IT:aI ["ins","state","span","after"] ["ins","state","span"] (aG (top 133)):=aM
theorem IU (T:Txt P w K mg A):Callee P w K mg base 1 "with_dst" ["ins","state","span"] (UC K):=by
 refine aT T.yR IT (fun _ _ _ _ _ _=>Z8 fun _ _ _=>by kernel_rfl) (fun _ _ _ _ h=>?_) (fun _ _ _ _ _ H vs Q E _ h=>?_)
 ·obtain⟨_,_,_,_,_,_,rfl,_⟩:=h
  rfl
 ·obtain⟨aA,ins,bH,l,p8,s3,rfl,aq,⟨p,vs,rfl,e1,e2,e3⟩,AW,k⟩:=h
  have qd:=aq.ok.dst
  have hl:vs.length=75:=(Paired.len e2).trans e3
  refine⟨_,(au (bg (i:=3) IT.nd rfl (Or.inl rfl) (lO pq (by rfl) T.kR boot_list (af (pv 1) ai))) (au (fc (pv 2) (eZ (pv 3) (az (pv 0)) set_list)) (ak (ay (pv 3))))),?_⟩
  try dsimp only[aad]
  refine⟨_,rfl,_,_,rfl,Or.inl (aJ.of e1),fun q hq=>?_⟩
  have sq:∀ws,ah H (upd H q (.lst ws)):=fun ws=>ah.new hq
  refine⟨_,rfl,_,rfl,_,rfl,_,(aq.mono (sq _)).bA,_,_,_,_,rfl,rfl,aH,eX (by lia) (by rw[hl];lia),?_⟩
  rw[dj]
  exact⟨_,rfl,k _ _ (sq _) (rK (ah.refl _) hq) (AU hq (Paired.iy AW _ e2) (by rw[List.length_set];exact e3))⟩
theorem mR {H:Hp} {q:Addr} {xs ys:List V} {v:V} {s:S3} (hq:H q=some (.lst xs)):aQ K H v s→aQ K (upd H q (.lst ys)) v s:=fun⟨p,e,z⟩=>by
 refine⟨p,e,?_⟩
 rcases z with(z|⟨o,z⟩)|z
 ·exact .inl (.inl (by rw[aL (bF z hq (fun w=>by cases w))];exact z))
 ·exact .inl (.inr ⟨o,by rw[aL (bF z hq (fun w=>by cases w))];exact z⟩)
 ·exact .inr z
theorem uL (s:S3):∀(ks:List Int) (l:List S3),(fm l s ks).length=l.length
 |[],l=>rfl
 |k::r,l=>by unfold fm;rw[uL s r,List.length_set]
theorem DI (s:S3):∀(ks:List Int) (k:Int) (l:List S3),fm l s (ks++[k])=(fm l s ks).set k.toNat s
 |[],k,l=>rfl
 |x::r,k,l=>by
  show fm (l.set x.toNat s) s (r++[k])=(fm (l.set x.toNat s) s r).set k.toNat s
  exact DI s r k _
def UD (K:W.Frag):Sp:=fun vs H Q _=>∃(aA:V) (ins:Insn) (bH:V) (l:List S3),vs=[aA,bH]∧bf K H aA ins∧cE K H bH l∧rL ins (dI ins l)∧∀v H',ah H H'→fV H v→cE K H' v (DJ ins l)→Q v H'
theorem UE {ins:Insn} {s:S3} (h:rL ins s) {k:Int} (hk:k∈fM ins s):0≤k∧k<75:=by
 have qz:=nU ins
 unfold fM at hk
 by_cases g:s.1=2
 ·rw[aa (fun z=>z g)]at hk
  have hb:=h g
  obtain⟨j,hj,rfl⟩:=List.mem_map.mp hk
  have:=List.mem_range.mp hj
  lia
 ·rw[aPos g]at hk
  cases hk
def UG (K:W.Frag):TS:=eN (nk (vH (fun σ H Q=>fR (uB K) [] E0 (bW (bh 0) cK) σ H fun x H'=>∃k,jJ K x H' k∧Q k H') (tB (vF (eT K (bh 0) "imm") (tC (.int 241)))))
  (lJ (fR (ux K) [] E0 (bW (dX (rI qH fun i j=> .int (i*j)) (tC (.int 8)) (eT K (bh 0) "size")) cK)) (oW (bh 2) (tC (.int 0)) o9))
  (nk (vH (fun σ H Q=>fR (uB K) [] E0 (bW (bh 0) cK) σ H fun x H'=>∃k,jJ K x H' k∧Q k H') (fun σ H Q=>dX (fE fun i j=> .int (Builtin.bitAnd i j)) (eT K (bh 0) "imm") (tC (.int 1)) σ H fun x H'=>∃k,jJ K x H' k∧Q k H'))
   (lJ (fR (ux K) [] E0 (bW (dX (rI qH fun i j=> .int (i*j)) (tC (.int 8)) (eT K (bh 0) "size")) cK)) (oW (bh 2) (eT K (bh 0) "src") o9)) qC)) (kK (bh 2))
theorem UH {Q:VK} {aA bH:V} {v3:Option V} {ins:Insn} {l l':List S3} {H H3:Hp} {q:Addr} {vs:List V} (aq:bf K H aA ins) (hq:H q=none)
  (sm:ah H H3) (e1:H3 q=some (.lst vs)) (e2:Paired (aQ K H3) vs l') (e3:l'.length=75)
  (k:∀v H',ah H H'→fV H v→cE K H' v (if dH ins=true∧ins.imm=241 then l'.set 0 (dS (8*(ins.size:Int)))else if dH ins=true∧Builtin.bitAnd ins.imm 1≠0 then l'.set ins.src (dS (8*(ins.size:Int)))else l')→Q v H'):
  UG K {nx:=fun _ H'=>Q .aK H',rt:=Q} [some aA,some bH,some (.ref q),v3] H3:=by
 have qs:=aq.ok.src
 have qz:=nU ins
 have nq:fV H (.ref q):=fun z e=>by cases e;exact hq
 have fi:=aq.mono sm
 have hl:vs.length=75:=(Paired.len e2).trans e3
 have put:∀(j:Nat) (v1:V) (H4:Hp),j<75→ah H3 H4→aQ K H4 v1 (dS (8*(ins.size:Int)))→(ah H (upd H4 q (.lst (vs.set j v1)))∧cE K (upd H4 q (.lst (vs.set j v1))) (.ref q) (l'.set j (dS (8*(ins.size:Int))))):=fun j v1 H4 hj s4 f4=>by
  have sq:∀b o,H4 b=some o→b≠q→(upd H4 q (.lst (vs.set j v1))) b=some o:=fun b o e hb=>by rw[aL hb];exact e
  have tr:∀{v:V} {s:S3},aQ K H4 v s→aQ K (upd H4 q (.lst (vs.set j v1))) v s:=fun{v s} ⟨p,e,z⟩=>by
   refine⟨p,e,?_⟩
   rcases z with(z|⟨o,z⟩)|z
   ·exact .inl (.inl (sq _ _ z (bF z (s4 _ _ e1) (fun w=>by cases w))))
   ·exact .inl (.inr ⟨o,sq _ _ z (bF z (s4 _ _ e1) (fun w=>by cases w))⟩)
   ·exact .inr z
  refine⟨fun b o e=>sq b o (s4 _ _ (sm _ _ e)) (aY e hq),q,_,rfl,aH,Paired.ck (Paired.iy f4 j (Paired.ck e2 fun _ _ z=>z.mono s4)) fun _ _ z=>tr z,by rw[List.length_set];exact e3⟩
 have fin:(¬(dH ins=true∧ins.imm=241))→(¬(dH ins=true∧Builtin.bitAnd ins.imm 1≠0))→Q (.ref q) H3:=fun n1 n2=>by
  rw[aa n1,aa n2]at k
  exact k _ _ sm nq ⟨q,vs,rfl,e1,e2,e3⟩
 have alt:(¬(dH ins=true∧ins.imm=241))→eN (nk (vH (fun σ H Q=>fR (uB K) [] E0 (bW (bh 0) cK) σ H fun x H'=>∃k,jJ K x H' k∧Q k H') (fun σ H Q=>dX (fE fun i j=> .int (Builtin.bitAnd i j)) (eT K (bh 0) "imm") (tC (.int 1)) σ H fun x H'=>∃k,jJ K x H' k∧Q k H'))
   (lJ (fR (ux K) [] E0 (bW (dX (rI qH fun i j=> .int (i*j)) (tC (.int 8)) (eT K (bh 0) "size")) cK)) (oW (bh 2) (eT K (bh 0) "src") o9)) qC) (kK (bh 2)) {nx:=fun _ H'=>Q .aK H',rt:=Q} [some aA,some bH,some (.ref q),v3] H3:=fun n1=>by
  refine⟨_,rfl,_,_,rfl,fi,_,rfl,?_⟩
  refine ao (fun h1=>?_) (fun h1=>?_)
  ·refine⟨_,rfl,_,fi.c9,_,_,rfl,rfl,_,rfl,?_⟩
   refine ao (fun h2=>?_) (fun h2=>?_)
   ·have g2:Builtin.bitAnd ins.imm 1≠0:=by simpa using h2
    refine⟨_,rfl,_,fi.fG,_,_,rfl,rfl,Or.inl ⟨by decide,by decide⟩,_,rfl,(by lia),fun v4 H4 s4 f4=>?_⟩
    have e5:((ins.src:Nat):Int).toNat=ins.src:=by lia
    refine⟨_,rfl,_,rfl,_,(fi.mono s4).ff,_,_,_,_,rfl,rfl,s4 _ _ e1,eX (by lia) (by rw[hl];lia),_,rfl,?_⟩
    rw[e5]
    obtain⟨p1,p2⟩:=put ins.src v4 H4 (by lia) s4 f4
    rw[aa n1,aPos ⟨h1,g2⟩]at k
    exact k _ _ p1 nq p2
   ·have g2:Builtin.bitAnd ins.imm 1=0:=by simpa using h2
    exact⟨_,rfl,fin n1 fun z=>z.2 g2⟩
  ·refine dw ?_
   exact⟨_,rfl,fin n1 fun z=>h1 z.1⟩
 refine⟨_,rfl,_,_,rfl,fi,_,rfl,?_⟩
 refine ao (fun h1=>?_) (fun h1=>?_)
 ·refine⟨_,rfl,_,fi.c9,_,_,rfl,rfl,_,rfl,?_⟩
  refine ao (fun h2=>?_) (fun h2=>?_)
  ·have g2:ins.imm=241:=aZ h2
   refine⟨_,rfl,_,fi.fG,_,_,rfl,rfl,Or.inl ⟨by decide,by decide⟩,_,rfl,(by lia),fun v4 H4 s4 f4=>?_⟩
   refine⟨_,rfl,_,_,_,_,rfl,rfl,s4 _ _ e1,eX (by lia) (by rw[hl];lia),_,rfl,?_⟩
   obtain⟨p1,p2⟩:=put 0 v4 H4 (by lia) s4 f4
   rw[aPos ⟨h1,g2⟩]at k
   exact k _ _ p1 nq p2
  ·exact alt fun z=>h2 (bq z.2)
 ·refine dw ?_
  exact alt fun z=>h1 z.1
theorem DK:aI ["ins","state","after","piece"] ["ins","state"] (aG (top 124)):=aM
theorem UI (T:Txt P w K mg A):Callee P w K mg base 3 "after_store" ["ins","state"] (UD K):=by
 refine aT T.yM DK (fun _ _ _ _ _ _=>ln2 fun _ _=>by kernel_rfl) (fun _ _ _ _ h=>?_) (fun _ _ _ _ _ H vs Q E hr h=>?_)
 ·obtain⟨_,_,_,_,rfl,_⟩:=h
  rfl
 ·obtain⟨aA,ins,bH,l,rfl,aq,cz,hs,k⟩:=h
  obtain⟨p,vs,rfl,e1,e2,e3⟩:=id cz
  refine⟨_,au (bg (i:=2) DK.nd rfl (Or.inl rfl) (lO pq (by rfl) T.kR boot_list (af (pv 1) ai)))<|
   au (kL PassesOwn.never rfl (sH (aE (IQ T) (hr.mono (by decide)) (af (pv 0) (af (aE (AM T) (hr.mono (by decide)) (af (pv 0) (af (pv 1) ai))) ai)))) (gf (i:=3) DK.nd rfl (Or.inl rfl))
    (ak (fc (aE (S7 T) (hr.mono (by decide)) (af (pv 0) (af (pv 1) ai))) (eZ (pv 2) (pv 3) set_list))))<|
   au (aN (gq (bI (aE (nV T) (hr.mono (by decide)) (af (pv 0) ai)) (fun _=>rfl)) (gI (aX (aO (az (pv 0)) (aU T.qY))))).pt
    (ak (fc (aE (iM T) (hr.mono (by decide)) (af (aF iF aj (az (pv 0))) ai)) (eZ (pv 2) aj set_list)))
    (ak (aN (gq (bI (aE (nV T) (hr.mono (by decide)) (af (pv 0) ai)) (fun _=>rfl)) (gI (bI (aF cT (az (pv 0)) aj) (fun _=>rfl)))).pt
     (ak (fc (aE (iM T) (hr.mono (by decide)) (af (aF iF aj (az (pv 0))) ai)) (eZ (pv 2) (az (pv 0)) set_list))) aP)))<|
   ak (ay (pv 2)),?_⟩
  try dsimp only[aad]
  refine⟨_,rfl,_,_,rfl,Or.inl (aJ.of e1),fun q hq=>?_⟩
  have sq:ah H (upd H q (.lst vs)):=ah.new hq
  refine⟨_,rfl,_,rfl,_,rfl,_,_,_,_,rfl,aq.mono sq,cz.mono sq,fun u1 i1=>?_⟩
  refine⟨_,_,_,_,rfl,aq.mono sq,i1,hs,fun a H1 s1 ha=>?_⟩
  have hl:vs.length=75:=(Paired.len e2).trans e3
  have UJ:a≠q:=fun z=>by
   subst z
   have w1:=(s1 _ _ aH).symm.trans ha
   injection w1 with w1
   injection w1 with w1
   obtain⟨y,hy⟩:∃y,l[0]? =some y:=⟨_,List.getElem?_eq_getElem (by lia)⟩
   obtain⟨x,hx,p2,ex,_⟩:=Paired.at e2 hy
   subst ex
   rw[w1,List.getElem?_map]at hx
   obtain⟨z,_,hz⟩:=Option.map_eq_some_iff.mp hx
   cases hz
  refine⟨a,rfl,⟨_,aJ.of ha⟩,B9 (a:=a) (xs:=(fM ins (dI ins l)).map V.int) (fun i σ H'=>∃v3 vs',σ=[some aA,some (.ref p),some (.ref q),v3]∧ah H H'∧H' a=some (.lst ((fM ins (dI ins l)).map V.int))∧H' q=some (.lst vs')∧Paired (aQ K H') vs' (fm l (jt ins l) ((fM ins (dI ins l)).take i)))
   ⟨none,vs,rfl,ah.trans sq s1,ha,s1 _ _ aH,Paired.ck e2 fun _ _ z=>(z.mono sq).mono s1⟩ (fun i σ H' _ ⟨_,_,_,_,z,_⟩=>aJ.of z) ?_ ?_⟩
  ·rintro i x σ H' hx ⟨v3,vs',rfl,sm,ha',hq',pr⟩
   rw[List.getElem?_map]at hx
   obtain⟨y,hy,rfl⟩:=Option.map_eq_some_iff.mp hx
   have hb:=UE hs (List.mem_of_getElem? hy)
   have hl':vs'.length=75:=by rw[Paired.len pr,uL];exact e3
   refine⟨_,rfl,_,rfl,_,_,_,_,rfl,aq.mono sm,cz.mono sm,fun v4 H4 s4 f4=>?_⟩
   refine⟨_,rfl,_,rfl,_,_,_,_,rfl,rfl,s4 _ _ hq',eX hb.1 (by rw[hl'];lia),?_⟩
   have rM:=s4 _ _ hq'
   refine⟨_,_,rfl,fun b o e=>?_,?_,aH,?_⟩
   ·rw[aL (aY e hq)]
    exact s4 _ _ (sm _ _ e)
   ·rw[aL UJ]
    exact s4 _ _ ha'
   ·rw[List.take_add_one,hy]
    show Paired _ _ (fm l (jt ins l) ((fM ins (dI ins l)).take i++[y]))
    rw[DI]
    exact Paired.ck (Paired.iy f4 _ (Paired.ck pr fun _ _ z=>z.mono s4)) fun _ _ z=>mR rM z
  ·rintro σ H' ⟨v3,vs',rfl,sm,ha',hq',pr⟩
   rw[List.length_map,List.take_length]at pr
   exact UH (l:=l) aq hq sm hq' pr (by rw[uL];exact e3) k
def UK (K:W.Frag):Sp:=fun vs H Q _=>∃(aA:V) (ins:Insn) (bH:V) (l:List S3),vs=[aA,bH]∧bf K H aA ins∧cE K H bH l∧rL ins (dI ins l)∧∀v H',ah H H'→fV H v→cE K H' v (uM ins l)→Q v H'
theorem IV:aI ["ins","state","after"] ["ins","state"] (aG (top 125)):=aM
theorem UL (T:Txt P w K mg A):Callee P w K mg base 4 "after_memory" ["ins","state"] (UK K):=by
 refine aT T.yN IV (fun _ _ _ _ _ _=>ln2 fun _ _=>by kernel_rfl) (fun _ _ _ _ h=>?_) (fun _ _ _ _ _ H vs Q E hr h=>?_)
 ·obtain⟨_,_,_,_,rfl,_⟩:=h
  rfl
 ·obtain⟨aA,ins,bH,l,rfl,aq,cz,hs,k⟩:=h
  have qd:=aq.ok.dst
  refine⟨_,(au (aN (aX (gp (az (pv 0)) aj)) (ak (ay (aE (UI T) (hr.mono (by decide)) (af (pv 0) (af (pv 1) ai))))) aP) (au (bg (i:=2) IV.nd rfl (Or.inl rfl) (lO pq (by rfl) T.kR boot_list (af (pv 1) ai))) (au (fc (aE (UB T) (hr.mono (by decide)) (af (pv 0) (af (pv 1) ai))) (eZ (pv 2) (az (pv 0)) set_list)) (ak (ay (pv 2)))))),?_⟩
  try dsimp only[aad]
  refine⟨_,rfl,_,aq.gT,_,_,rfl,rfl,_,rfl,?_⟩
  unfold uM at k
  refine ao (fun h1=>?_) (fun h1=>?_)
  ·rw[aPos (fun z=>by rw[z]at h1;simp at h1)]at k
   exact⟨_,rfl,_,rfl,_,_,_,_,rfl,aq,cz,hs,k⟩
  ·have g1:ins.cls=1:=by
    have:((ins.cls:Nat):Int)=1:=by simpa using h1
    lia
   rw[aa (fun z=>z g1)]at k
   obtain⟨p,vs,rfl,e1,e2,e3⟩:=id cz
   have hl:vs.length=75:=(Paired.len e2).trans e3
   refine⟨_,rfl,_,_,rfl,Or.inl (aJ.of e1),fun q hq=>?_⟩
   have sq:ah H (upd H q (.lst vs)):=ah.new hq
   refine⟨_,rfl,_,rfl,_,_,_,_,rfl,aq.mono sq,cz.mono sq,hs,fun v1 H1 s1 f1=>?_⟩
   have hq1:=s1 _ _ aH
   refine⟨_,rfl,_,rfl,_,((aq.mono sq).mono s1).bA,_,_,_,_,rfl,rfl,hq1,eX (by lia) (by rw[hl];lia),_,rfl,k _ _ (fun b o e=>?_) (rK (ah.refl _) hq) ⟨q,_,rfl,aH,?_,by rw[List.length_set];exact e3⟩⟩
   ·rw[aL (aY e hq)]
    exact s1 _ _ (sq _ _ e)
   ·have e0:((ins.dst:Nat):Int).toNat=ins.dst:=by lia
    rw[e0]
    exact Paired.ck (Paired.iy f1 _ (Paired.ck e2 fun _ _ z=>(z.mono sq).mono s1)) fun _ _ z=>mR hq1 z
def UM (K:W.Frag):Sp:=fun vs H Q _=>∃(bH:V) (l:List S3),vs=[bH]∧cE K H bH l∧∀v H',ah H H'→fV H v→cE K H' v (AY l)→Q v H'
theorem UN (i:Nat) (hi:i<5):([1,2,3,4,5]:List Int).take (i+1)=([1,2,3,4,5]:List Int).take i++[1+(i:Int)]:=by
 match i,hi with
 |0,_=>rfl
 |1,_=>rfl
 |2,_=>rfl
 |3,_=>rfl
 |4,_=>rfl
theorem DL:aI ["state","after","number"] ["state"] (aG (top 132)):=aM
theorem UO (T:Txt P w K mg A):Callee P w K mg base 1 "after_helper" ["state"] (UM K):=by
 refine aT T.yQ DL (fun _ _ _ _ _ _=>Z9 fun _=>by kernel_rfl) (fun _ _ _ _ h=>?_) (fun _ _ _ _ _ H vs Q E _ h=>?_)
 ·obtain⟨_,_,rfl,_⟩:=h
  rfl
 ·obtain⟨bH,l,rfl,cz,k⟩:=h
  obtain⟨p,vs,rfl,e1,e2,e3⟩:=id cz
  have hl:vs.length=75:=(Paired.len e2).trans e3
  refine⟨_,au (bg (i:=1) DL.nd rfl (Or.inl rfl) (lO pq (by rfl) T.kR boot_list (af (pv 0) ai)))<|
   au (fc (cY T.kQ) (eZ (pv 1) aj set_list))<|
   au (kL PassesOwn.never rfl (Mp rfl T.jh (af aj (af aj ai))) (gf (i:=2) DL.nd rfl (Or.inl rfl)) (ak (fc (cY T.HS) (eZ (pv 1) (pv 2) set_list))))<|
   ak (ay (pv 1)),?_⟩
  try dsimp only[aad]
  refine⟨_,rfl,_,_,rfl,Or.inl (aJ.of e1),fun q hq=>?_⟩
  refine⟨_,rfl,_,_,_,_,rfl,rfl,aH,eX (by lia) (by rw[hl];lia),?_⟩
  rw[dj]
  refine⟨_,_,rfl,⟨by decide,by decide,by decide,by decide⟩,oZ (lo:=1) (n:=5) (fun i σ H'=>∃v2 vs',σ=[some (.ref p),some (.ref q),v2]∧H'=upd H q (.lst vs')∧Paired (aQ K H) vs' (fm (l.set 0 (0,0,18446744073709551615)) (0,0,0) (([1,2,3,4,5]:List Int).take i)))
   ⟨none,_,rfl,rfl,Paired.iy (T.dG _) _ e2⟩ ?_ ?_⟩
  ·rintro i σ H' hi ⟨v2,vs',rfl,rfl,pr⟩
   have hl':vs'.length=75:=by rw[Paired.len pr,uL,List.length_set];exact e3
   refine⟨_,rfl,_,rfl,_,_,_,_,rfl,rfl,aH,eX (by lia) (by rw[hl'];lia),?_⟩
   rw[dj]
   refine⟨_,_,rfl,rfl,?_⟩
   rw[UN i hi,DI]
   exact Paired.iy (T.tT _) _ pr
  ·rintro σ H' ⟨v2,vs',rfl,rfl,pr⟩
   exact⟨_,rfl,k _ _ (ah.new hq) (rK (ah.refl _) hq) (AU hq pr (by unfold AY;rw[uL,List.length_set];exact e3))⟩
def UP (K:W.Frag):Sp:=fun vs H Q _=>∃(least:Int),vs=[.int least]∧∀v H',ah H H'→fV H v→cE K H' v (rN least)→Q v H'
theorem DM {α β:Type} {F:α→β→Prop} {x:α} {y:β} (h:F x y):∀n,Paired F (List.replicate n x) (List.replicate n y)
 |0=> .nil
 |n+1=> .cons h (DM h n)
theorem rep1 {α:Type} (x:α):∀n,(List.replicate n [x]).flatten=List.replicate n x
 |0=>rfl
 |n+1=>by rw[List.replicate_succ,List.flatten_cons,rep1 x n];rfl
theorem IW:aI ["least","state"] ["least"] (aG (top 130)):=aM
theorem UQ (T:Txt P w K mg A):Callee P w K mg base 1 "first_state" ["least"] (UP K):=by
 refine aT T.yO IW (fun _ _ _ _ _ _=>Z9 fun _=>by kernel_rfl) (fun _ _ _ _ h=>?_) (fun _ _ _ _ _ H vs Q E _ h=>?_)
 ·obtain⟨_,rfl,_⟩:=h
  rfl
 ·obtain⟨least,rfl,k⟩:=h
  refine⟨_,au (bg (i:=1) IW.nd rfl (Or.inl rfl) (aF Cq (bO (af (cY T.HS) ai)) (aU T.tO)))<|
   au (fc (dP (af (aU T.kP) (af aj (af aj ai)))) (eZ (pv 1) aj set_list))<|
   au (fc (dP (af (aU T.cP) (af (pv 0) (af (aU T.qZ) ai)))) (eZ (pv 1) aj set_list))<|
   au (fc (dP (af (aU T.jM) (af (aU T.lU) (af (aU T.lU) ai)))) (eZ (pv 1) aj set_list))<|
   ak (ay (pv 1)),?_⟩
  try dsimp only[aad]
  refine⟨cB,fun q0 oh=>?_⟩
  have s0:ah H (upd H q0 (.lst [.ref A.jg])):=ah.new oh
  refine⟨_,_,_,rfl,rfl,aH,by decide,by decide,(by show 75≤sizeLine;decide),fun q hq=>?_⟩
  generalize upd H q0 (.lst [.ref A.jg])=H0 at s0 hq
  rw[show((75:Int).toNat)=75 from rfl,rep1]
  have s1:ah H0 (upd H0 q (.lst (List.replicate 75 (.ref A.jg)))):=ah.new hq
  refine⟨_,_,_,rfl,fun v2 H2 s2 f2=>?_⟩
  have h2:=s2 _ _ aH
  refine⟨_,rfl,_,_,_,_,rfl,rfl,h2,eX (by decide) (by rw[List.length_replicate];decide),?_⟩
  have p2:Paired (aQ K (upd H2 q (.lst ((List.replicate 75 (V.ref A.jg)).set 1 v2)))) ((List.replicate 75 (V.ref A.jg)).set 1 v2) ((List.replicate 75 ((0,0,0):S3)).set 1 (1,0,0)):=
   Paired.iy (mR h2 f2) 1 (DM (T.tT _) 75)
  have t2:ah H (upd H2 q (.lst ((List.replicate 75 (V.ref A.jg)).set 1 v2))):=fun b o e=>by
   rw[aL (aY (s0 _ _ e) hq)]
   exact s2 _ _ (s1 _ _ (s0 _ _ e))
  have u2:(upd H2 q (.lst ((List.replicate 75 (V.ref A.jg)).set 1 v2))) q=_:=aH
  have l2:((List.replicate 75 (V.ref A.jg)).set 1 v2).length=75:=by rw[List.length_set,List.length_replicate]
  show eN _ _ _ _ (upd H2 q (.lst ((List.replicate 75 (V.ref A.jg)).set 1 v2)))
  have DN:H q=none:=by
   cases e:H q with
   |none=>rfl
   |some o=>exact absurd (s0 _ _ e) (by rw[hq];simp)
  generalize ((List.replicate 75 (V.ref A.jg)).set 1 v2)=w2 at p2 t2 u2 l2 ⊢
  generalize upd H2 q (.lst w2)=G2 at p2 t2 u2 ⊢
  refine⟨_,rfl,_,_,_,rfl,fun v3 H3 s3 f3=>?_⟩
  have h3:=s3 _ _ u2
  refine⟨_,rfl,_,_,_,_,rfl,rfl,h3,eX (by decide) (by rw[l2];decide),?_⟩
  have p3:Paired (aQ K (upd H3 q (.lst (w2.set 2 v3)))) (w2.set 2 v3) (((List.replicate 75 ((0,0,0):S3)).set 1 (1,0,0)).set 2 (0,least,256)):=
   Paired.iy (mR h3 f3) 2 (Paired.ck p2 fun _ _ z=>mR h3 (z.mono s3))
  have t3:ah H (upd H3 q (.lst (w2.set 2 v3))):=fun b o e=>by
   rw[aL (aY e DN)]
   exact s3 _ _ (t2 _ _ e)
  have u3:(upd H3 q (.lst (w2.set 2 v3))) q=_:=aH
  have l3:(w2.set 2 v3).length=75:=by rw[List.length_set];exact l2
  show eN _ _ _ _ (upd H3 q (.lst (w2.set 2 v3)))
  generalize w2.set 2 v3=w3 at p3 t3 u3 l3 ⊢
  generalize upd H3 q (.lst w3)=G3 at p3 t3 u3 ⊢
  refine⟨_,_,_,rfl,fun v4 H4 s4 f4=>?_⟩
  have h4:=s4 _ _ u3
  refine⟨_,rfl,_,_,_,_,rfl,rfl,h4,eX (by decide) (by rw[l3];decide),_,rfl,k _ _ (fun b o e=>?_) (fun z e=>by cases e;exact DN) ⟨q,_,rfl,aH,?_,?_⟩⟩
  ·rw[aL (aY e DN)]
   exact s4 _ _ (t3 _ _ e)
  ·exact Paired.iy (mR h4 f4) 10 (Paired.ck p3 fun _ _ z=>mR h4 (z.mono s4))
  ·unfold rN
   simp
def UR (K:W.Frag) (G:Hp) (v0:V) (H:Hp) (v:V) (w:Way):Prop:=∃p u,v= .ref p∧H p=some (.tup [.int w.1,u])∧dU K H u w.2∧(fV G u∨u=v0)
def DO (K:W.Frag) (G:Hp) (v0:V) (H:Hp) (a:Addr) (ws:List Way):Prop:=∃vs,H a=some (.lst vs)∧Paired (UR K G v0 H) vs ws
theorem uN {G H:Hp} {v0:V} {n:Int} {u:V} {o:Option (List S3)} (h:dU K H u o) (hn:fV G u∨u=v0) {p q:Addr} (hp:H p=none) (hq:(upd H p (.tup [.int n,u])) q=none):
  ah H (upd (upd H p (.tup [.int n,u])) q (.lst [.ref p]))∧DO K G v0 (upd (upd H p (.tup [.int n,u])) q (.lst [.ref p])) q [(n,o)]:=by
 have s1:ah H (upd H p (.tup [.int n,u])):=ah.new hp
 have s2:ah (upd H p (.tup [.int n,u])) (upd (upd H p (.tup [.int n,u])) q (.lst [.ref p])):=ah.new hq
 exact⟨ah.trans s1 s2,_,aH,.cons ⟨p,u,rfl,s2 _ _ aH,(h.mono s1).mono s2,hn⟩ .nil⟩
def US (K:W.Frag):Sp:=fun vs H Q _=>∃(aA:V) (ins:Insn) (place:Int) (bH:V) (l:List S3),vs=[aA,.int place,bH]∧bf K H aA ins∧cE K H bH l∧∀a H',ah H H'→DO K H bH H' a (AZ ins place l)→Q (.ref a) H'
theorem IX:aI ["ins","place","state","ways"] ["ins","place","state"] (aG (top 134)):=aM
theorem UT (T:Txt P w K mg A):Callee P w K mg base 5 "ways_of_jump" ["ins","place","state"] (US K):=by
 refine aT T.yS IX (fun _ _ _ _ _ _=>Z8 fun _ _ _=>by kernel_rfl) (fun _ _ _ _ h=>?_) (fun _ _ _ _ _ H vs Q E hr h=>?_)
 ·obtain⟨_,_,_,_,_,rfl,_⟩:=h
  rfl
 ·obtain⟨aA,ins,place,bH,l,rfl,aq,cz,k⟩:=h
  refine⟨_,au (aN (aX (aO (az (pv 0)) aj)) (ak (ay (bO (af (lM (af (aE (rG T) (hr.mono (by decide)) (af (pv 0) (af (pv 1) ai))) (af (pv 2) ai))) ai)))) aP)<|
   au (bg (i:=3) IX.nd rfl (Or.inl rfl) (aE (Ux T) (hr.mono (by decide)) (af (pv 0) (af (pv 2) ai))))<|
   ak (ay (bO (af (lM (af (aE (rG T) (hr.mono (by decide)) (af (pv 0) (af (pv 1) ai))) (af (bX bR (pv 3) aj (fun _ _=>rfl)) ai))) (af (lM (af (aF bL (pv 1) aj) (af (bX bR (pv 3) aj (fun _ _=>rfl)) ai))) ai)))),?_⟩
  try dsimp only[aad]
  refine⟨_,rfl,_,aq.b9,_,_,rfl,rfl,_,rfl,?_⟩
  unfold AZ at k
  refine ao (fun h1=>?_) (fun h1=>?_)
  ·rw[aPos (by have:=aZ h1;lia)]at k
   refine⟨_,rfl,_,rfl,_,_,_,rfl,aq,_,rfl,iw,fun p hp=>⟨cB,fun q hq=>?_⟩⟩
   obtain⟨t1,t2⟩:=uN (o:=some l) cz (.inr rfl) hp hq
   exact k q _ t1 t2
  ·rw[aa (fun z=>h1 (bq (by lia)))]at k
   refine⟨_,rfl,_,rfl,_,_,_,_,rfl,aq,cz,fun a v1 v2 H1 s1 ha w1 w2 o1 o2=>?_⟩
   refine⟨_,rfl,_,rfl,_,_,_,rfl,aq.mono s1,_,rfl,_,_,_,_,rfl,rfl,aJ.of ha,rfl,iw,fun p hp=>?_⟩
   have s2:ah H1 (upd H1 p (.tup [.int (fj ins place),v1])):=ah.new hp
   refine⟨_,rfl,_,_,rfl,rfl,_,rfl,_,_,_,_,rfl,rfl,aJ.of (s2 _ _ ha),rfl,iw,fun p' mS=>⟨iw,fun q hq=>?_⟩⟩
   have s3:ah (upd H1 p (.tup [.int (fj ins place),v1])) (upd (upd H1 p (.tup [.int (fj ins place),v1])) p' (.tup [.int (place+1),v2])):=ah.new mS
   have s4:ah (upd (upd H1 p (.tup [.int (fj ins place),v1])) p' (.tup [.int (place+1),v2])) (upd (upd (upd H1 p (.tup [.int (fj ins place),v1])) p' (.tup [.int (place+1),v2])) q (.lst [.ref p,.ref p'])):=ah.new hq
   refine k q _ (ah.trans s1 (ah.trans s2 (ah.trans s3 s4))) ⟨_,aH,.cons ⟨p,v1,rfl,s4 _ _ (s3 _ _ aH),((o1.mono s2).mono s3).mono s4,w1⟩ (.cons ⟨p',v2,rfl,s4 _ _ aH,((o2.mono s2).mono s3).mono s4,w2⟩ .nil)⟩
def UW (K:W.Frag):Sp:=fun vs H Q _=>∃(bP:V) (p:List Insn) (place:Int) (bH:V) (l:List S3),vs=[bP,.int place,bH]∧dg K H bP p∧cE K H bH l∧IY p place l∧∀a H',ah H H'→DO K H bH H' a (gz p place l)→Q (.ref a) H'
theorem DP:aI ["program","place","state","ins","span"] ["program","place","state"] (aG (top 135)):=aM
theorem UX (T:Txt P w K mg A):Callee P w K mg base 8 "ways_behind" ["program","place","state"] (UW K):=by
 refine aT T.yT DP (fun _ _ _ _ _ _=>Z8 fun _ _ _=>by kernel_rfl) (fun _ _ _ _ h=>?_) (fun _ _ _ _ _ H vs Q E hr h=>?_)
 ·obtain⟨_,_,_,_,_,rfl,_⟩:=h
  rfl
 ·obtain⟨bP,p,place,bH,l,rfl,cZ,cz,hw,k⟩:=h
  refine⟨_,au (bg (i:=3) DP.nd rfl (Or.inl rfl) (pD (pv 0) (pv 1)))<|
   au (aN (aX (aO (az (pv 3)) (aU T.nJ))) (ak (ay (bO ai))) aP)<|
   au (aN (aX (aO (az (pv 3)) (aU T.nI))) (ak (ay (bO (af (lM (af (aF bL (pv 1) aj) (af (aE (IU T) (hr.mono (by decide)) (af (pv 3) (af (pv 2) (af (aE (AI T) (hr.mono (by decide)) (af (aE (Iq T) (hr.mono (by decide)) (af (pv 0) (af (pv 1) ai))) ai)) ai)))) ai))) ai)))) aP)<|
   au (aN (aX (aO (az (pv 3)) (aU T.pG))) (ak (ay (bO (af (lM (af (aF bL (pv 1) aj) (af (aE (UO T) (hr.mono (by decide)) (af (pv 2) ai)) ai))) ai)))) aP)<|
   au (aN (bI (aE (Dv T) (hr.mono (by decide)) (af (pv 3) ai)) (fun _=>rfl)) (ak (ay (aE (UT T) (hr.mono (by decide)) (af (pv 3) (af (pv 1) (af (pv 2) ai)))))) aP)<|
   au (aN (bI (aE (Iw T) (hr.mono (by decide)) (af (pv 3) ai)) (fun _=>rfl)) (ak (ay (bO (af (lM (af (aF bL (pv 1) aj) (af (aE (UL T) (hr.mono (by decide)) (af (pv 3) (af (pv 2) ai))) ai))) ai)))) aP)<|
   au (bg (i:=4) DP.nd rfl (Or.inl rfl) (aE (TZ T) (hr.mono (by decide)) (af (pv 3) (af (lR (pv 2) (az (pv 3))) (af (aE (Il T) (hr.mono (by decide)) (af (pv 3) (af (pv 2) ai))) ai)))))<|
   ak (ay (bO (af (lM (af (aF bL (pv 1) aj) (af (aE (IU T) (hr.mono (by decide)) (af (pv 3) (af (pv 2) (af (pv 4) ai)))) ai))) ai))),?_⟩
  try dsimp only[aad]
  have hat:=hw.at_
  refine⟨_,rfl,_,cZ,_,rfl,ah.refl _,_,_,rfl,hat.1,mj (by lia),fun u1 i1=>?_⟩
  unfold gz at k
  have h1:=hw.wide
  have h2:=hw.mem
  have h3:=hw.alu
  have h4:=hw.cls
  have h5:=hw.UU
  generalize p.getD place.toNat aW=ins at i1 k h1 h2 h3 h4 h5
  have qd:=i1.ok.dst
  have e0:((ins.dst:Nat):Int).toNat=ins.dst:=by lia
  refine⟨_,rfl,_,i1.eF,_,_,rfl,rfl,_,rfl,?_⟩
  refine ao (fun c1=>?_) (fun c1=>?_)
  ·rw[aPos (by have:=aZ c1;lia)]at k
   exact⟨uH,fun q hq=>k q _ (ah.new hq) ⟨_,aH,.nil⟩⟩
  ·have n1:¬ins.code=149:=fun z=>c1 (bq (by lia))
   rw[aa n1]at k
   refine⟨_,rfl,_,i1.eF,_,_,rfl,rfl,_,rfl,?_⟩
   refine ao (fun c2=>?_) (fun c2=>?_)
   ·have g2:ins.code=24:=by have:=aZ c2;lia
    rw[aPos g2]at k
    have UY:=h1 g2
    refine⟨_,rfl,_,_,rfl,rfl,_,rfl,_,rfl,_,rfl,_,rfl,_,_,_,rfl,cZ,⟨hat.1,UY⟩,_,rfl,fun v2 H2 s2 f2=>?_⟩
    refine⟨_,_,_,_,_,_,rfl,i1.mono s2,cz.mono s2,f2,fun v3 H3 s3 n3 f3=>⟨iw,fun p' mS=>⟨cB,fun q hq=>?_⟩⟩⟩
    obtain⟨t1,t2⟩:=uN (o:=some _) f3 (.inl (n3.back s2)) mS hq
    exact k q _ (ah.trans s2 (ah.trans s3 t1)) t2
   ·have n2:¬ins.code=24:=fun z=>c2 (bq (by lia))
    rw[aa n2]at k
    refine⟨_,rfl,_,i1.eF,_,_,rfl,rfl,_,rfl,?_⟩
    refine ao (fun c3=>?_) (fun c3=>?_)
    ·rw[aPos (by have:=aZ c3;lia)]at k
     refine⟨_,rfl,_,_,rfl,rfl,_,rfl,_,_,rfl,cz,fun v3 H3 s3 n3 f3=>⟨iw,fun p' mS=>⟨cB,fun q hq=>?_⟩⟩⟩
     obtain⟨t1,t2⟩:=uN (o:=some _) f3 (.inl n3) mS hq
     exact k q _ (ah.trans s3 t1) t2
    ·have n3:¬ins.code=133:=fun z=>c3 (bq (by lia))
     rw[aa n3]at k
     refine⟨_,rfl,_,_,rfl,i1,_,rfl,?_⟩
     refine ao (fun c4=>?_) (fun c4=>?_)
     ·rw[aPos c4]at k
      exact⟨_,rfl,_,rfl,_,rfl,_,_,_,_,_,rfl,i1,cz,k⟩
     ·rw[aa c4]at k
      refine⟨_,rfl,_,_,rfl,i1,_,rfl,?_⟩
      refine ao (fun c5=>?_) (fun c5=>?_)
      ·rw[aPos c5]at k
       refine⟨_,rfl,_,_,rfl,rfl,_,rfl,_,rfl,_,_,_,_,rfl,i1,cz,h2 c5,fun v3 H3 s3 n3 f3=>⟨iw,fun p' mS=>⟨cB,fun q hq=>?_⟩⟩⟩
       obtain⟨t1,t2⟩:=uN (o:=some _) f3 (.inl n3) mS hq
       exact k q _ (ah.trans s3 t1) t2
      ·rw[aa c5]at k
       rw[Bool.not_eq_true]at c4 c5
       have hc:=h4 n1 n2 n3 c4 c5
       refine⟨_,rfl,_,rfl,_,rfl,_,i1.bA,_,_,cz,rfl,⟨by lia,by lia⟩,fun u2 i2=>?_⟩
       refine⟨_,rfl,_,rfl,_,_,_,_,rfl,i1,cz,fun v3 H3 s3 f3=>?_⟩
       rw[e0]at i2
       have UZ:jZ (l.getD ins.dst (0,0,0)):=by
        obtain⟨_,_,_,_,_,hl⟩:=id cz
        have hlt:ins.dst<l.length:=by lia
        rw[List.getD_eq_getElem?_getD,List.getElem?_eq_getElem hlt]
        exact hw.sp _ (List.getElem_mem hlt)
       refine⟨_,_,_,_,_,_,rfl,i1.mono s3,i2.mono s3,f3,⟨h3 hc,UZ,h5 hc⟩,fun v4 H4 s4 f4=>?_⟩
       refine⟨_,rfl,_,_,rfl,rfl,_,rfl,_,rfl,_,rfl,_,_,_,_,_,_,rfl,(i1.mono s3).mono s4,(cz.mono s3).mono s4,f4,fun v5 H5 s5 n5 f5=>⟨iw,fun p' mS=>⟨cB,fun q hq=>?_⟩⟩⟩
       obtain⟨t1,t2⟩:=uN (o:=some _) f5 (.inl (n5.back (ah.trans s3 s4))) mS hq
       exact k q _ (ah.trans s3 (ah.trans s4 (ah.trans s5 t1))) t2
theorem U0 {a b:Addr} {xs ys:List V} {g:TG} {tt:TT} {te:TE} {vs:List Nat} {σ:L2.St} {H1:Hp} {D:Addr} {Qd:Hp→Prop} (Pv:Nat→Hp→Prop) (h0:Pv 0 (upd H1 D (.lst []))) (hl:∀i H,i≤xs.length→Pv i H→aJ K H a xs∧aJ K H b ys) (len:xs.length=ys.length)
  (hs:∀i x y T H,xs[i]? =some x→ys[i]? =some y→H T=none→Pv i H→g (.ref T) (wipe σ vs) (upd H T (.tup [x,y])) fun σ2 H2=>wipe σ2 vs=wipe σ vs∧tt σ2 H2 fun b H3=>
   if b=true then te σ2 H3 fun y H4=>∃acc,H4 D=some (.lst acc)∧acc.length<sizeLine∧Pv (i+1) (upd H4 D (.lst (acc++[y])))else Pv (i+1) H3) (hd:∀H,Pv xs.length H→Qd H):
  ∃W:Nat→Nat→Hp→Prop,(∃m,W 0 m (upd H1 D (.lst [])))∧∀i m H,W i m H→
   ((tL K a b).stop i H∧Qd H)∨((tL K a b).go i H∧∃Nx:Hp→Prop,(∀H',Nx H'→∃m',m'<m∧W (i+1) m' H')∧∀x H',(tL K a b).nt i H x H'→g x (wipe σ vs) H' fun σ2 H2=>wipe σ2 vs=wipe σ vs∧tt σ2 H2 fun b H3=>
    if b=true then te σ2 H3 fun y H4=>∃acc,H4 D=some (.lst acc)∧acc.length<sizeLine∧Nx (upd H4 D (.lst (acc++[y])))else Nx H3):=by
 refine⟨fun i m H=>m=xs.length-i∧i≤xs.length∧Pv i H,⟨xs.length,by simp,Nat.zero_le _,h0⟩,?_⟩
 rintro i m H ⟨rfl,hi,p⟩
 obtain⟨q1,q2⟩:=hl i H hi p
 by_cases hlt:i<xs.length
 ·refine .inr ⟨⟨xs,ys,xs[i],ys[i],q1,q2,by simp[hlt],by simp⟩,Pv (i+1),fun H' p'=>⟨xs.length-(i+1),by lia,rfl,hlt,p'⟩,fun v H' y=>?_⟩
  obtain⟨T,x,y,rfl,hT,rfl,e1,e2⟩:=y
  exact hs i x y T H (e1 xs q1) (e2 ys q2) hT p
 ·have e:i=xs.length:=by lia
  subst e
  exact .inl ⟨⟨xs,ys,q1,q2,.inl (Nat.le_refl _)⟩,hd H p⟩
def U3 (K:W.Frag):Sp:=fun vs H Q _=>∃(A1:V) (o:Option (List S3)) (bH:V) (l:List S3),vs=[A1,bH]∧dU K H A1 o∧cE K H bH l∧∀v H',ah H H'→(fV H v∨v=bH)→cE K H' v (p9 o l)→Q v H'
theorem ah.mT {H H':Hp} {D:Addr} {o:HO} (s:ah H H') (hD:H D=none):ah H (upd H' D o):=fun b u e=>by
 rw[aL (aY e hD)]
 exact s _ _ e
theorem A2 {α β:Type} {F:α→β→Prop} {x:α} {y:β}:∀{l₁:List α} {l₂:List β},Paired F l₁ l₂→F x y→Paired F (l₁++[x]) (l₂++[y])
 |_,_,.nil,h=> .cons h .nil
 |_,_,.cons r t,h=> .cons r (A2 t h)
theorem A3:aI ["known","state","one","other"] ["known","state"] (aG (top 136)):=aM
theorem U4 (T:Txt P w K mg A):Callee P w K mg base 2 "joined" ["known","state"] (U3 K):=by
 refine aT T.yU A3 (fun _ _ _ _ _ _=>ln2 fun _ _=>by kernel_rfl) (fun _ _ _ _ h=>?_) (fun _ _ _ _ _ H vs Q E hr h=>?_)
 ·obtain⟨_,_,_,_,rfl,_⟩:=h
  rfl
 ·obtain⟨A1,o,bH,l,rfl,IZ,cz,k⟩:=h
  refine⟨_,au (aN (bY iH (pv 0) dO (bz _)) (ak (ay (pv 1))) aP)<|
   ak (ay (tG (g:=FF K 2 (B3 (qE 2) (B3 (qE 3) FD))) (own:=[("one",2),("other",3)]) rfl A3.nd (N3 (by rfl) T.CW (af (pv 0) (af (pv 1) ai))) (tH (by kernel_rfl))
    (fun _ _ _ _ _=>by exact FG rfl (vN (gf (i:=2) A3.nd rfl (Or.inl rfl)) (vN (gf (i:=3) A3.nd rfl (Or.inl rfl)) FE))) (fun _ _ _ _ _=>tF) (fun _ _ _ _ _=>aE (Q3 T) (hr.mono (by decide)) (af (pv 2) (af (pv 3) ai))))),?_⟩
  try dsimp only[aad]
  refine⟨_,rfl,rfl,_,rfl,?_⟩
  cases o with
  |none=>
   have e:A1= .aK:=IZ
   subst e
   refine ao (fun _=>⟨_,rfl,k _ _ (ah.refl _) (.inr rfl) cz⟩) (fun h1=>absurd rfl h1)
  |some l0=>
   obtain⟨p0,DQ,rfl,a1,a2,a3⟩:=id IZ
   obtain⟨p,vs,rfl,e1,e2,e3⟩:=id cz
   refine ao (fun h1=>nomatch (aZ h1)) (fun _=>?_)
   have l1:DQ.length=75:=(Paired.len a2).trans a3
   have l2:vs.length=75:=(Paired.len e2).trans e3
   refine⟨_,rfl,_,rfl,p0,p,DQ,vs,rfl,aJ.of a1,aJ.of e1,fun D hD=>?_⟩
   refine U0 (a:=p0) (b:=p) (xs:=DQ) (ys:=vs) (fun i H'=>ah H H'∧∃acc,H' D=some (.lst acc)∧Paired (aQ K H') acc (((l0.zip l).map fun x=>gU x.1 x.2).take i))
    ⟨ah.new hD,[],aH,by rw[List.take_zero];exact .nil⟩ (fun i H' _ ⟨z,_⟩=>⟨aJ.of (z _ _ a1),aJ.of (z _ _ e1)⟩) (by lia) ?_ ?_
   ·rintro i x y T' H' hx hy hT ⟨sm,acc,hacc,pr⟩
    have sT:ah H' (upd H' T' (.tup [x,y])):=ah.new hT
    have hi:i<75:=by rw[←l1];exact(List.getElem?_eq_some_iff.mp hx).1
    obtain⟨z1,hz1⟩:∃z,l0[i]? =some z:=⟨_,List.getElem?_eq_getElem (by lia)⟩
    obtain⟨z2,hz2⟩:∃z,l[i]? =some z:=⟨_,List.getElem?_eq_getElem (by lia)⟩
    obtain⟨x',hx',fx⟩:=Paired.at a2 hz1
    obtain⟨y',hy',fy⟩:=Paired.at e2 hz2
    have ex:x=x':=Option.some.inj (hx.symm.trans hx')
    have ey:y=y':=Option.some.inj (hy.symm.trans hy')
    subst ex ey
    refine⟨T',_,rfl,cI.of aH,rfl,_,_,rfl,_,_,rfl,rfl,rfl,uK ?_⟩
    refine⟨_,rfl,_,rfl,_,_,_,_,rfl,(fx.mono sm).mono sT,(fy.mono sm).mono sT,fun v4 H4 s4 f4=>?_⟩
    have h4:=s4 _ _ (sT _ _ hacc)
    have hl:acc.length≤75:=by
     rw[Paired.len pr,List.length_take]
     exact Nat.le_trans (Nat.min_le_left _ _) (by lia)
    refine⟨acc,h4,Nat.lt_of_le_of_lt hl (by decide),ah.mT (ah.trans sm (ah.trans sT s4)) hD,_,aH,?_⟩
    have e5:((l0.zip l).map fun x=>gU x.1 x.2)[i]? =some (gU z1 z2):=by
     have e6:(l0.zip l)[i]? =some (z1,z2):=List.getElem?_zip_eq_some.mpr ⟨hz1,hz2⟩
     rw[List.getElem?_map,e6]
     rfl
    rw[List.take_add_one,e5]
    exact Paired.ck (A2 (Paired.ck pr fun _ _ z=>(z.mono sT).mono s4) f4) fun _ _ z=>mR h4 z
   ·rintro H' ⟨sm,acc,hacc,pr⟩
    have el:((l0.zip l).map fun x=>gU x.1 x.2).length=75:=by rw[List.length_map,List.length_zip];lia
    rw[l1,←el,List.take_length]at pr
    exact k _ _ sm (.inl (rK (ah.refl _) hD)) ⟨D,acc,rfl,hacc,pr,el⟩
def fq (p:Addr) (H H':Hp):Prop:=∀b o,H b=some o→b≠p→H' b=some o
def U5 (K:W.Frag) (B:bE):Sp:=fun vs H Q _=>∃(p dx r:Addr) (b:List Int),vs=[.ref p,.ref r]∧H p=some (.ins B.gh dx [])∧H r=some (.lst (b.map V.int))∧b.length=8∧AllB b∧
 ∀H',fq p H H'→H' p=some (.ins B.gh dx (wB (mU b)))→Q .aK H'
theorem U6:∀n:Nat,n<256→Builtin.bitAnd (n:Int) 224=((n/32*32:Nat):Int):=by decide+kernel
theorem U7:∀n:Nat,n<256→Builtin.bitAnd (n:Int) 7=((n%8:Nat):Int):=by decide+kernel
theorem U8:∀n:Nat,n<256→(!decide (Builtin.bitAnd (n:Int) 8=0))=(n/8%2==1):=by decide+kernel
theorem U9:∀n:Nat,n<256→Builtin.bitAnd (n:Int) 15=((n%16:Nat):Int):=by decide+kernel
theorem Va:∀n:Nat,n<256→c8 CV (Sum.inl (Builtin.bitAnd (n:Int) 24))=some (.int (((([4,2,1,8]:List Nat).getD (n/8%4) 0:Nat)):Int)):=by decide+kernel
theorem I0:∀n:Nat,n<256→(n:Int)/2^(4:Int).toNat=((n/16:Nat):Int):=by decide+kernel
theorem Vb (v0 v1 v2 v3 v4 v5 v6 v7 v8 v9:V):bx "imm" v9 (bx "off" v8 (bx "src" v7 (bx "dst" v6 (bx "from_src" v5 (bx "size" v4 (bx "way" v3 (bx "op" v2 (bx "group" v1 (bx "code" v0 [])))))))))=
  ([("code",v0),("group",v1),("op",v2),("way",v3),("size",v4),("from_src",v5),("dst",v6),("src",v7),("off",v8),("imm",v9)]:List (Str×V)):=by rfl
theorem Vc {i:Insn} {v0 v1 v2 v3 v4 v5 v6 v7 v8 v9:V} (h0:v0= .int (i.code:Int)) (h1:v1= .int (i.cls:Int)) (h2:v2= .int (i.op:Int)) (h3:v3= .int (i.mode:Int)) (h4:v4= .int (i.size:Int)) (h5:v5= .bl i.reg) (h6:v6= .int (i.dst:Int)) (h7:v7= .int (i.src:Int)) (h8:v8= .int i.off) (h9:v9= .int i.imm):
  ([("code",v0),("group",v1),("op",v2),("way",v3),("size",v4),("from_src",v5),("dst",v6),("src",v7),("off",v8),("imm",v9)]:List (Str×V))=wB i:=by
 subst h0 h1 h2 h3 h4 h5 h6 h7 h8 h9
 rfl
theorem Vd:aI ["self","row"] ["self","row"] (aG (inClass (top 88) 0)):=aM
theorem Ve (U:cF P w K mg A B):dQ P w K mg base 3 B.CZ ["self","row"] (U5 K B):=by
 have T:=U.t
 refine fH U.zX Vd (fun _ _ _ _ _ _=>ln2 fun _ _=>by kernel_rfl) (fun _ _ _ _ h=>?_) (fun _ _ _ _ H vs Q E hr h=>?_)
 ·obtain⟨_,_,_,_,rfl,_⟩:=h
  rfl
 ·obtain⟨p,dx,r,b,rfl,hp,hr0,hl,hb,k⟩:=h
  obtain⟨b0,b1,b2,b3,b4,b5,b6,b7,rfl⟩:∃b0 b1 b2 b3 b4 b5 b6 b7:Nat,b=[(b0:Int),b1,b2,b3,b4,b5,b6,b7]:=by
   match b,hl,hb with
   |[z0,z1,z2,z3,z4,z5,z6,z7],_,hb=>
    have q0:=hb z0 (by simp);have q1:=hb z1 (by simp);have q2:=hb z2 (by simp);have q3:=hb z3 (by simp)
    have q4:=hb z4 (by simp);have q5:=hb z5 (by simp);have q6:=hb z6 (by simp);have q7:=hb z7 (by simp)
    exact⟨z0.toNat,z1.toNat,z2.toNat,z3.toNat,z4.toNat,z5.toNat,z6.toNat,z7.toNat,by
     rw[Int.toNat_of_nonneg q0.1,Int.toNat_of_nonneg q1.1,Int.toNat_of_nonneg q2.1,Int.toNat_of_nonneg q3.1,Int.toNat_of_nonneg q4.1,Int.toNat_of_nonneg q5.1,Int.toNat_of_nonneg q6.1,Int.toNat_of_nonneg q7.1]⟩
  have q0:=hb b0 (by simp);have q1:=hb b1 (by simp);have q2:=hb b2 (by simp);have q3:=hb b3 (by simp)
  have q4:=hb b4 (by simp);have q5:=hb b5 (by simp);have q6:=hb b6 (by simp);have q7:=hb b7 (by simp)
  have oi:r≠p:=bF hr0 hp (fun z=>by cases z)
  have hR:∀o,(upd H p o) r=some (.lst ([(b0:Int),b1,b2,b3,b4,b5,b6,b7].map V.int)):=fun o=>by rw[aL oi];exact hr0
  refine⟨_,(au (bQ (pv 0) (bX bR (pv 1) aj (fun _ _=>rfl)) rfl) (au (bQ (pv 0) (aF cT (bX bR (pv 1) aj (fun _ _=>rfl)) aj) rfl) (au (bQ (pv 0) (aF lK (bX bR (pv 1) aj (fun _ _=>rfl)) aj) rfl) (au (bQ (pv 0) (aF cT (bX bR (pv 1) aj (fun _ _=>rfl)) aj) rfl) (au (bQ (pv 0) (nE (cY T.OD) (aF cT (bX bR (pv 1) aj (fun _ _=>rfl)) aj)) rfl) (au (bQ (pv 0) (c6 MB (aF cT (bX bR (pv 1) aj (fun _ _=>rfl)) aj) aj (bz _)) rfl) (au (bQ (pv 0) (aF cT (bX bR (pv 1) aj (fun _ _=>rfl)) aj) rfl) (au (bQ (pv 0) (aF lK (bX bR (pv 1) aj (fun _ _=>rfl)) aj) rfl) (au (bQ (pv 0) (aE (iL T) (hr.mono (by decide)) (af (aF bL (bX bR (pv 1) aj (fun _ _=>rfl)) (aF jb (bX bR (pv 1) aj (fun _ _=>rfl)) aj)) (af aj ai))) rfl) (ak (bQ (pv 0) (aE (iL T) (hr.mono (by decide)) (af (aF bL (aF bL (aF bL (bX bR (pv 1) aj (fun _ _=>rfl)) (aF jb (bX bR (pv 1) aj (fun _ _=>rfl)) aj)) (aF jb (bX bR (pv 1) aj (fun _ _=>rfl)) aj)) (aF jb (bX bR (pv 1) aj (fun _ _=>rfl)) aj)) (af aj ai))) rfl))))))))))),?_⟩
  try dsimp only[aad]
  have U1:=U.uf
  refine⟨_,rfl,_,_,_,_,rfl,rfl,aJ.of hr0,rfl,_,rfl,p,_,dx,_,rfl,hp,U1,U.zN,(by decide),?_⟩
  refine⟨_,rfl,_,_,_,_,rfl,rfl,aJ.of (hR _),rfl,_,_,rfl,rfl,_,rfl,p,_,dx,_,rfl,aH,U1,U.zO,(by show 1<1000;decide),?_⟩
  rw[dj]
  refine⟨_,rfl,_,_,_,_,rfl,rfl,aJ.of (hR _),rfl,_,_,rfl,rfl,(by show(0:Int)≤4;decide),_,rfl,p,_,dx,_,rfl,aH,U1,U.zP,(by show 2<1000;decide),?_⟩
  rw[dj]
  refine⟨_,rfl,_,_,_,_,rfl,rfl,aJ.of (hR _),rfl,_,_,rfl,rfl,_,rfl,p,_,dx,_,rfl,aH,U1,U.zQ,(by show 3<1000;decide),?_⟩
  rw[dj]
  refine⟨_,rfl,_,_,_,_,rfl,rfl,aJ.of (hR _),rfl,_,_,rfl,rfl,_,_,Sum.inl _,_,rfl,T.zM,rfl,Va b0 (by lia),_,rfl,p,_,dx,_,rfl,aH,U1,U.zR,(by show 4<1000;decide),?_⟩
  rw[dj]
  refine⟨_,rfl,_,_,_,_,rfl,rfl,aJ.of (hR _),rfl,_,_,rfl,rfl,rfl,_,rfl,p,_,dx,_,rfl,aH,U1,U.zS,(by show 5<1000;decide),?_⟩
  rw[dj]
  refine⟨_,rfl,_,_,_,_,rfl,rfl,aJ.of (hR _),rfl,_,_,rfl,rfl,_,rfl,p,_,dx,_,rfl,aH,U1,U.zT,(by show 6<1000;decide),?_⟩
  rw[dj]
  refine⟨_,rfl,_,_,_,_,rfl,rfl,aJ.of (hR _),rfl,_,_,rfl,rfl,(by show(0:Int)≤4;decide),_,rfl,p,_,dx,_,rfl,aH,U1,U.zU,(by show 7<1000;decide),?_⟩
  rw[dj]
  refine⟨_,rfl,_,_,_,_,rfl,rfl,aJ.of (hR _),rfl,_,rfl,_,_,_,_,rfl,rfl,aJ.of (hR _),rfl,_,_,rfl,rfl,⟨by decide,by decide,by lia⟩,_,_,rfl,rfl,_,_,rfl,⟨by decide,by decide⟩,_,rfl,p,_,dx,_,rfl,aH,U1,U.zV,(by show 8<1000;decide),?_⟩
  rw[dj]
  refine⟨_,rfl,_,_,_,_,rfl,rfl,aJ.of (hR _),rfl,_,rfl,_,_,_,_,rfl,rfl,aJ.of (hR _),rfl,_,_,rfl,rfl,⟨by decide,by decide,by lia⟩,_,_,rfl,rfl,
   _,rfl,_,_,_,_,rfl,rfl,aJ.of (hR _),rfl,_,_,rfl,rfl,⟨by decide,by decide,by lia⟩,_,_,rfl,rfl,_,rfl,_,_,_,_,rfl,rfl,aJ.of (hR _),rfl,_,_,rfl,rfl,⟨by decide,by decide,by lia⟩,_,_,rfl,rfl,_,_,rfl,⟨by decide,by decide⟩,_,rfl,p,_,dx,_,rfl,aH,U1,U.zW,(by show 9<1000;decide),?_⟩
  rw[dj]
  refine k _ (fun c o e hc=>by rw[aL hc];exact e) ?_
  rw[aH]
  refine congrArg (fun q=>some (HO.ins B.gh dx q)) ?_
  have e0:([(b0:Int),b1,b2,b3,b4,b5,b6,b7].getD 0 0).toNat=b0:=rfl
  have e1:bB ((b2:Int)+(b3:Int)*2^(8:Int).toNat) 16=(mU [(b0:Int),b1,b2,b3,b4,b5,b6,b7]).off:=by
   have e:(b2:Int)+(b3:Int)*2^(8:Int).toNat=((b2+256*b3:Nat):Int):=by
    show(b2:Int)+(b3:Int)*256=_
    lia
   rw[e]
   exact uv 16 _ (by decide)
  have e2:bB ((b4:Int)+(b5:Int)*2^(8:Int).toNat+(b6:Int)*2^(16:Int).toNat+(b7:Int)*2^(24:Int).toNat) 32=(mU [(b0:Int),b1,b2,b3,b4,b5,b6,b7]).imm:=by
   have e:(b4:Int)+(b5:Int)*2^(8:Int).toNat+(b6:Int)*2^(16:Int).toNat+(b7:Int)*2^(24:Int).toNat=((b4+256*b5+65536*b6+16777216*b7:Nat):Int):=by
    show(b4:Int)+(b5:Int)*256+(b6:Int)*65536+(b7:Int)*16777216=_
    lia
   rw[e]
   exact uv 32 _ (by decide)
  refine(Vb _ _ _ _ _ _ _ _ _ _).trans ?_
  refine Vc rfl (congrArg V.int (U7 b0 (by lia))) (congrArg V.int (I0 b0 (by lia))) (congrArg V.int (U6 b0 (by lia))) rfl ?_ (congrArg V.int (U9 b1 (by lia))) (congrArg V.int (I0 b1 (by lia))) (congrArg V.int e1) (congrArg V.int e2)
  refine congrArg V.bl ?_
  have e3:decide (V.int (Builtin.bitAnd (b0:Int) 8)=V.int 0)=decide (Builtin.bitAnd (b0:Int) 8=0):=by
   by_cases h:Builtin.bitAnd (b0:Int) 8=0
   ·rw[h];rfl
   ·rw[decide_eq_false h];exact decide_eq_false fun z=>h (V.int.inj z)
  exact(congrArg (fun z=> !z) e3).trans (U8 b0 (by lia))
theorem Ja (b:Bool) (i:Insn) (r:List Insn):beginsFrom b (i::r)=(!b)::beginsFrom (!b&&i.wide) r:=by
 cases b<;>rfl
theorem Jb:∀(p:List Insn) (b:Bool) (i:Nat),i<p.length→(beginsFrom b p)[i]? =some (if i=0 then !b else !((beginsFrom b p).getD (i-1) false&&(p.getD (i-1) aW).wide))
 |[],_,_,h=>by simp at h
 |x::r,b,0,_=>by rw[Ja];rfl
 |x::r,b,j+1,h=>by
  rw[Ja,List.getElem?_cons_succ,Jb r (!b&&x.wide) j (by simpa using h)]
  cases j with
  |zero=>rfl
  |succ n=>rfl
def Vf (K:W.Frag):Sp:=fun vs H Q _=>∃(il:Addr) (ws:List V) (p:List Insn),vs=[.ref il]∧H il=some (.lst ws)∧Paired (bf K H) ws p∧p.length≤128∧∀a H',ah H H'→H' a=some (.lst ((beginsFrom false p).map V.bl))→Q (.ref a) H'
theorem Vg (i:Insn):decide (((i.code:Nat):Int)=24)=i.wide:=by
 unfold Insn.wide
 by_cases h:i.code=24
 ·rw[h];rfl
 ·have h2:¬(((i.code:Nat):Int)=24):=by lia
  rw[decide_eq_false h2]
  exact(beq_eq_false_iff_ne.mpr h).symm
theorem A4:aI ["instructions","begins","place","is_half"] ["instructions"] (aG (top 90)):=aM
theorem Vh (T:Txt P w K mg A):Callee P w K mg base 1 "beginnings" ["instructions"] (Vf K):=by
 refine aT T.yc A4 (fun _ _ _ _ _ _=>Z9 fun _=>by kernel_rfl) (fun _ _ _ _ h=>?_) (fun _ _ _ _ _ H vs Q E _ h=>?_)
 ·obtain⟨_,_,_,rfl,_⟩:=h
  rfl
 ·obtain⟨il,ws,p,rfl,hil,pr,hlen,k⟩:=h
  have hl:=Paired.len pr
  refine⟨_,au (bg (i:=1) A4.nd rfl (Or.inl rfl) (bO ai))<|
   au (kL PassesOwn.never rfl (qF rfl T.jh (af (bZ eO (by rfl) T.d8 boot_len (af (pv 0) ai)) ai)) (gf (i:=2) A4.nd rfl (Or.inl rfl))
    (au (bg (i:=3) A4.nd rfl (Or.inl rfl) (bN (c6 ny (pv 2) aj (bz _)) (bN (bX bR (pv 1) (aF fF (pv 2) aj) (fun _ _=>rfl)) (cC (bD (aO (az (bX bR (pv 0) (aF fF (pv 2) aj) (fun _ _=>rfl))) (aU T.nI)))))))
    (ak (jH (tw PySem.F.plainAttrs_list PySem.F.slot_list_append PySem.F.type_list_append Co (pv 1) (af (BW (pv 3)) ai))))))<|
   ak (ay (pv 1)),?_⟩
  try dsimp only[aad]
  refine⟨uH,fun q hq=>?_⟩
  have sq:ah H (upd H q (.lst [])):=ah.new hq
  refine⟨_,rfl,_,_,rfl,Or.inl (aJ.of (sq _ _ hil)),_,rfl,by lia,by lia,oZ (lo:=0) (n:=((ws.length:Nat):Int).toNat) (fun i σ H'=>∃v2 v3,σ=[some (.ref il),some (.ref q),v2,v3]∧ah H H'∧H' q=some (.lst (((beginsFrom false p).take i).map V.bl)))
   ⟨none,none,rfl,sq,aH⟩ ?_ ?_⟩
  ·rintro i σ H' hi ⟨v2,v3,rfl,sm,hq'⟩
   have A5:i<p.length:=by lia
   have hst:=Jb p false i A5
   have hpos:((0:Int)+(i:Int))=(i:Int):=by lia
   have app:∀(c:Bool),(!c)=(if i=0 then !false else !((beginsFrom false p).getD (i-1) false&&(p.getD (i-1) aW).wide))→∀(vv:Option V),
     qD (wg K "list" Cn (bh 1) (bW (Fy (bh 3)) cK)) {nx:=(fun σ H'=>∃v2 v3,σ=[some (.ref il),some (.ref q),v2,v3]∧ah H H'∧H' q=some (.lst (((beginsFrom false p).take (i+1)).map V.bl))),rt:=Q,ct:=(fun σ H'=>∃v2 v3,σ=[some (.ref il),some (.ref q),v2,v3]∧ah H H'∧H' q=some (.lst (((beginsFrom false p).take (i+1)).map V.bl))),bk:=(kK (bh 1)) {nx:=fun _ H'=>Q .aK H',rt:=Q}} [some (.ref il),some (.ref q),some (.int (0+(i:Int))),some (.bl c)] H':=by
    intro c ec vv
    refine⟨_,rfl,.inl ⟨rfl,_,aJ.of hq'⟩,_,rfl,_,rfl,q,_,_,rfl,rfl,hq',?_,_,_,rfl,fun b o e=>?_,?_⟩
    ·rw[List.length_map,List.length_take]
     exact Nat.lt_of_le_of_lt (Nat.min_le_left _ _) (Nat.lt_of_lt_of_le (by lia:i<129) (by decide))
    ·rw[aL (aY e hq)]
     exact sm _ _ e
    ·rw[aH,List.take_add_one,hst,List.map_append,←ec]
     rfl
   refine⟨_,rfl,_,_,rfl,rfl,_,rfl,?_⟩
   refine ao (fun h1=>?_) (fun h1=>?_)
   ·have g1:0<i:=by have:=aZ h1;lia
    have e1:((0:Int)+(i:Int)-1).toNat=i-1:=by lia
    have hb:(((beginsFrom false p).take i).map V.bl)[(i-1)]? =some (.bl ((beginsFrom false p).getD (i-1) false)):=by
     have hlt:i-1<(beginsFrom false p).length:=by rw[lS];lia
     rw[List.getElem?_map,List.getElem?_take_of_lt (by lia),List.getElem?_eq_getElem hlt,List.getD_eq_getElem?_getD,List.getElem?_eq_getElem hlt]
     rfl
    refine⟨_,rfl,_,rfl,_,_,rfl,rfl,_,_,_,_,rfl,rfl,aJ.of hq',jf (by lia) (by rw[e1];exact hb),_,rfl,?_⟩
    refine ao (fun h2=>?_) (fun h2=>?_)
    ·obtain⟨x,hx,fx⟩:=Paired.at pr (mj (p:=p) (i:=i-1) (by lia))
     refine⟨_,rfl,_,rfl,_,_,rfl,rfl,_,_,_,_,rfl,rfl,aJ.of (sm _ _ hil),jf (by lia) (by rw[e1];exact hx),_,(fx.mono sm).eF,_,_,rfl,rfl,app _ ?_ none⟩
     rw[aa (by lia),h2,Bool.true_and]
     exact congrArg (fun z=> !z) (Vg _)
    ·rw[Bool.not_eq_true]at h2
     refine app false ?_ none
     rw[aa (by lia),h2]
     rfl
   ·have g1:i=0:=by
     have:¬((0:Int)<0+(i:Int)):=fun z=>h1 (bq z)
     lia
    refine app false ?_ none
    rw[aPos g1]
  ·rintro σ H' ⟨v2,v3,rfl,sm,hq'⟩
   have e:((ws.length:Nat):Int).toNat=(beginsFrom false p).length:=by rw[lS];lia
   rw[e,List.take_length]at hq'
   exact⟨_,rfl,k q _ sm hq'⟩
theorem Jc {lo c:Int} {n:Nat} {g:TG} {tt:TT} {te:TE} {vs:List Nat} {σ:L2.St} {H1:Hp} {D:Addr} {Qd:Hp→Prop} (Pv:Nat→Hp→Prop) (h0:Pv 0 (upd H1 D (.lst [])))
  (hs:∀i H,i<n→Pv i H→g (.int (lo+(i:Nat)*c)) (wipe σ vs) H fun σ2 H2=>wipe σ2 vs=wipe σ vs∧tt σ2 H2 fun b H3=>
   if b=true then te σ2 H3 fun y H4=>∃acc,H4 D=some (.lst acc)∧acc.length<sizeLine∧Pv (i+1) (upd H4 D (.lst (acc++[y])))else Pv (i+1) H3) (hd:∀H,Pv n H→Qd H):
  ∃W:Nat→Nat→Hp→Prop,(∃m,W 0 m (upd H1 D (.lst [])))∧∀i m H,W i m H→
   ((tK lo c n).stop i H∧Qd H)∨((tK lo c n).go i H∧∃Nx:Hp→Prop,(∀H',Nx H'→∃m',m'<m∧W (i+1) m' H')∧∀x H',(tK lo c n).nt i H x H'→g x (wipe σ vs) H' fun σ2 H2=>wipe σ2 vs=wipe σ vs∧tt σ2 H2 fun b H3=>
    if b=true then te σ2 H3 fun y H4=>∃acc,H4 D=some (.lst acc)∧acc.length<sizeLine∧Nx (upd H4 D (.lst (acc++[y])))else Nx H3):=by
 refine⟨fun i m H=>m=n-i∧i≤n∧Pv i H,⟨n,by simp,Nat.zero_le _,h0⟩,?_⟩
 rintro i m H ⟨rfl,hi,p⟩
 by_cases hlt:i<n
 ·refine .inr ⟨hlt,Pv (i+1),fun H' p'=>⟨n-(i+1),by lia,rfl,hlt,p'⟩,fun x H' y=>?_⟩
  obtain⟨e,y⟩:=y
  subst e y
  exact hs i _ hlt p
 ·have e:i=n:=by lia
  subst e
  exact .inl ⟨Nat.le_refl _,hd H p⟩
theorem Jd {n:Nat} {len c:Int} (hc:c=2∨c=8) (hl:len=c*(n:Int)) (hn:n≤100000):GN 0 len c n:=by
 have e:Builtin.Range.rangeSize 0 len c=(n:Int):=by
  unfold Builtin.Range.rangeSize
  rw[aPos (by lia)]
  rcases hc with rfl|rfl<;>split<;>lia
 refine⟨by lia,by lia,?_,e⟩
 unfold Builtin.Range.small
 rw[e]
 simp only[Builtin.Range.rangeFitsLong,Bool.and_eq_true,Bool.or_eq_true,decide_eq_true_eq,beq_iff_eq]
 rcases hc with rfl|rfl<;>simp<;>lia
theorem Vi {b:List Int} (h:AllB b):GV (mU b):=by
 have g:∀i,0≤b.getD i 0∧b.getD i 0≤255:=fun i=>by
  rw[List.getD_eq_getElem?_getD]
  cases e:b[i]? with
  |none=>simp
  |some z=>exact h z (List.mem_of_getElem? e)
 have g0:=g 0
 have g1:=g 1
 have o:=uw 16 ((b.getD 2 0).toNat+256*(b.getD 3 0).toNat) (by decide)
 have m:=uw 32 ((b.getD 4 0).toNat+256*(b.getD 5 0).toNat+65536*(b.getD 6 0).toNat+16777216*(b.getD 7 0).toNat) (by decide)
 refine⟨?_,?_,?_,?_,?_⟩
 ·show(b.getD 0 0).toNat<256
  lia
 ·show(b.getD 1 0).toNat%16<16
  lia
 ·show(b.getD 1 0).toNat/16<16
  lia
 ·show -32768≤Path.sgn 16 _∧Path.sgn 16 _<32768
  exact⟨o.1,o.2⟩
 ·show -2147483648≤Path.sgn 32 _∧Path.sgn 32 _<2147483648
  exact⟨m.1,m.2⟩
def Vj (K:W.Frag) (B:bE):Sp:=fun vs H Q _=>∃(p dx r:Addr) (code:List Int),vs=[.ref p,.ref r]∧H p=some (.ins B.mq dx [])∧H r=some (.lst (code.map V.int))∧(code.length%8=0∧0<code.length∧code.length≤1024)∧AllB code∧
 ∀H',fq p H H'→dg K H' (.ref p) (progOf code)→Q .aK H'
theorem Vk (code:List Int) (i:Nat) (h:8*i+8≤code.length):jK (code.map V.int) (some (0+(i:Int)*8)) (some (0+(i:Int)*8+8))=((code.drop (8*i)).take 8).map V.int:=by
 unfold jK
 have e1:(0:Int)+(i:Int)*8=((8*i:Nat):Int):=by lia
 have e2:(0:Int)+(i:Int)*8+8=((8*i+8:Nat):Int):=by lia
 rw[e2,e1,HT.sV,HT.sV,List.length_map,Nat.min_eq_left (by lia),Nat.min_eq_left (by lia),List.map_take,List.map_drop]
 congr 1
 lia
theorem DR:aI ["self","code","start"] ["self","code"] (aG (inClass (top 89) 0)):=aM
theorem Vl (U:cF P w K mg A B):dQ P w K mg base 5 B.C0 ["self","code"] (Vj K B):=by
 have T:=U.t
 refine fH U.z8 DR (fun _ _ _ _ _ _=>ln2 fun _ _=>by kernel_rfl) (fun _ _ _ _ h=>?_) (fun _ _ _ _ H vs Q E hr h=>?_)
 ·obtain⟨_,_,_,_,rfl,_⟩:=h
  rfl
 ·obtain⟨p,dx,r,code,rfl,hp,hr0,⟨l1,l2,l3⟩,hb,k⟩:=h
  have oi:r≠p:=bF hr0 hp (fun z=>by cases z)
  refine⟨_,au (bQ (pv 0) (tG (own:=[("start",2)]) rfl DR.nd (GO (by rfl) T.jh (af aj (af (bZ eO (by rfl) T.d8 boot_len (af (pv 1) ai)) (af aj ai)))) (tH (by kernel_rfl))
    (fun _ _ _ _ _=>gf (i:=2) DR.nd rfl (Or.inl rfl)) (fun _ _ _ _ _=>tF) (fun _ _ _ _ _=>pN U.zY (Ve U) (hr.mono (by decide)) U.OF (af (sW (r:=wc K) sY (pv 1) (lP (pv 2)) (lP (aF bL (pv 2) aj))) ai))) rfl)<|
   ak (bQ (pv 0) (aE (Vh T) (hr.mono (by decide)) (af (br (pv 0) rfl) ai)) rfl),?_⟩
  try dsimp only[aad]
  refine⟨_,rfl,_,_,rfl,Or.inl (aJ.of hr0),_,_,_,code.length/8,rfl,Jd (.inr rfl) (by rw[List.length_map];lia) (by lia),fun D hD=>?_⟩
  refine Jc (n:=code.length/8) (fun i H'=>ah H H'∧∃acc,H' D=some (.lst acc)∧Paired (bf K H') acc ((progOf code).take i))
   ⟨ah.new hD,[],aH,by rw[List.take_zero];exact .nil⟩ ?_ ?_
  ·rintro i H' hi ⟨sm,acc,hacc,pr⟩
   refine⟨rfl,uK ?_⟩
   refine⟨_,rfl,_,rfl,_,rfl,_,rfl,_,_,rfl,rfl,_,rfl,r,_,rfl,aJ.of (sm _ _ hr0),fun q hq=>?_⟩
   rw[Vk code i (by lia)]
   have sq:ah H' (upd H' q (.lst (((code.drop (8*i)).take 8).map V.int))):=ah.new hq
   intro x gP hx hdx hne
   have s1:∀b o,(upd H' q (.lst (((code.drop (8*i)).take 8).map V.int))) b=some o→(upd (upd (upd H' q (.lst (((code.drop (8*i)).take 8).map V.int))) gP (.own x)) x (.ins B.gh gP [])) b=some o:=fun b o e=>by
    rw[aL (aY e hx),aL (aY e hdx)]
    exact e
   have Je:AllB ((code.drop (8*i)).take 8):=fun z hz=>hb z (List.mem_of_mem_drop (List.mem_of_mem_take hz))
   refine⟨x,gP,q,(code.drop (8*i)).take 8,rfl,aH,s1 _ _ aH,by rw[List.length_take,List.length_drop];lia,Je,fun H2 b2 f2=>⟨rfl,?_⟩⟩
   have s2:ah H' H2:=fun b o e=>b2 b o (s1 _ _ (sq _ _ e)) (aY (sq _ _ e) hx)
   have h4:=s2 _ _ hacc
   have hl:acc.length=i:=by
    rw[Paired.len pr,List.length_take]
    unfold progOf
    rw[List.length_map,List.length_range]
    lia
   have up:∀{v:V} {j:Insn},bf K H2 v j→bf K (upd H2 D (.lst (acc++[.ref x]))) v j:=fun{v j} ⟨ok,a,C,d,e,z,z2⟩=>⟨ok,a,C,d,e,by rw[aL (bF z h4 (fun w=>by cases w))];exact z,z2⟩
   refine⟨acc,h4,Nat.lt_of_lt_of_le (by lia:acc.length<200) (by decide),ah.mT (ah.trans sm s2) hD,_,aH,?_⟩
   have e5:(progOf code)[i]? =some (mU ((code.drop (8*i)).take 8)):=by
    unfold progOf
    rw[List.getElem?_map,List.getElem?_range hi]
    rfl
   rw[List.take_add_one,e5]
   refine Paired.ck (A2 (Paired.ck pr fun _ _ z=>z.mono s2) ?_) fun _ _ z=>up z
   refine⟨Vi Je,x,_,gP,rfl,f2,U.uf,?_⟩
   intro f hf
   simp only[CF,List.mem_cons,List.not_mem_nil,or_false]at hf
   rcases hf with rfl|rfl|rfl|rfl|rfl|rfl|rfl|rfl|rfl|rfl
   ·exact U.zN
   ·exact U.zO
   ·exact U.zP
   ·exact U.zQ
   ·exact U.zR
   ·exact U.zS
   ·exact U.zT
   ·exact U.zU
   ·exact U.zV
   ·exact U.zW
  ·rintro H' ⟨sm,acc,hacc,pr⟩
   have el:(progOf code).length=code.length/8:=by unfold progOf;rw[List.length_map,List.length_range]
   rw[←el,List.take_length]at pr
   have DS:p≠D:=aY hp hD
   refine⟨_,rfl,p,_,dx,_,rfl,sm _ _ hp,U.pO,U.ug,(by decide),?_⟩
   have hp1:(upd H' p (.ins B.mq dx (bx "instructions" (.ref D) []))) p=_:=aH
   have tr:∀{v:V} {j:Insn},bf K H' v j→bf K (upd H' p (.ins B.mq dx (bx "instructions" (.ref D) []))) v j:=fun{v j} ⟨ok,a,C,d,e,z,z2⟩=>⟨ok,a,C,d,e,by rw[aL (bF z (sm _ _ hp) (fun w=>by cases w))];exact z,z2⟩
   refine⟨_,rfl,p,_,dx,_,_,rfl,aH,U.pO,U.ug,rfl,D,acc,_,rfl,(by rw[aL (Ne.symm DS)];exact hacc),Paired.ck pr fun _ _ z=>tr z,by lia,fun a H2 s2 ha=>?_⟩
   have hp2:=s2 _ _ hp1
   have Vm:H2 D=some (.lst acc):=s2 _ _ (by rw[aL (Ne.symm DS)];exact hacc)
   refine⟨_,rfl,p,_,dx,_,rfl,hp2,U.pO,U.zZ,(by show 1<1000;decide),?_⟩
   refine k _ (fun b o e hb'=>?_) ⟨⟨p,_,dx,_,D,a,acc,rfl,aH,U.pO,U.ug,U.zZ,rfl,rfl,?_,?_,?_⟩,by lia⟩
   ·rw[aL hb']
    exact s2 _ _ (by rw[aL hb'];exact sm _ _ e)
   ·rw[aL (Ne.symm DS)]
    exact Vm
   ·refine Paired.ck (Paired.ck pr fun _ _ z=>(tr z).mono s2) fun _ _ z=>?_
    obtain⟨ok,a',C,d,e,z,z2⟩:=z
    exact⟨ok,a',C,d,e,by rw[aL (bF z hp2 (fun w=>by cases w))];exact z,z2⟩
   ·have hap:a≠p:=bF ha hp2 (fun w=>by cases w)
    rw[aL hap]
    exact ha
def Vn (K:W.Frag) (B:bE):Sp:=fun vs H Q _=>∃(p dx:Addr) (n:Nat),vs=[.ref p,.int (n:Int)]∧H p=some (.ins B.nO dx [])∧n≤128∧
 ∀H' sl,fq p H H'→H sl=none→H' p=some (.ins B.nO dx [("states",.ref sl),("wrong",.aK)])→H' sl=some (.lst (List.replicate n .aK))→Q .aK H'
theorem Vo:aI ["self","count"] ["self","count"] (aG (inClass (top 129) 0)):=aM
theorem Vp (U:cF P w K mg A B):dQ P w K mg base 1 B.C1 ["self","count"] (Vn K B):=by
 have T:=U.t
 refine fH U.Aa Vo (fun _ _ _ _ _ _=>ln2 fun _ _=>by kernel_rfl) (fun _ _ _ _ h=>?_) (fun _ _ _ _ H vs Q E _ h=>?_)
 ·obtain⟨_,_,_,rfl,_⟩:=h
  rfl
 ·obtain⟨p,dx,n,rfl,hp,hn,k⟩:=h
  refine⟨_,au (bQ (pv 0) (aF Cq (bO (af dO ai)) (pv 1)) rfl)<|ak (bQ (pv 0) dO rfl),?_⟩
  try dsimp only[aad]
  refine⟨cB,fun q0 oh=>?_⟩
  have s0:ah H (upd H q0 (.lst [.aK])):=ah.new oh
  refine⟨_,rfl,_,_,_,rfl,rfl,aH,by lia,by lia,?_,fun q hq=>?_⟩
  ·show 1*((n:Int)).toNat≤sizeLine
   rw[Int.toNat_natCast]
   exact Nat.le_trans (by lia:1*n≤200) (by decide)
  rw[Int.toNat_natCast,rep1]
  generalize upd H q0 (.lst [.aK])=H0 at s0 hq
  have s1:ah H0 (upd H0 q (.lst (List.replicate n .aK))):=ah.new hq
  have hpq:p≠q:=aY (s0 _ _ hp) hq
  refine⟨_,rfl,p,_,dx,_,rfl,s1 _ _ (s0 _ _ hp),U.jl,U.nP,(by decide),?_⟩
  refine⟨_,rfl,p,_,dx,_,rfl,aH,U.jl,U.rq,(by show 1<1000;decide),?_⟩
  rw[dj]
  refine k _ q (fun b o e hb=>?_) (ah.free s0 hq) aH ?_
  ·rw[aL hb]
   exact s1 _ _ (s0 _ _ e)
  ·rw[aL (Ne.symm hpq),aH]
theorem kc.mono {H H':Hp} {v:V} {ts:gn} {wr:Option Nat} (h:kc K H v ts wr) (s:ah H H'):kc K H' v ts wr:=by
 obtain⟨a,C,dx,fs,sl,us,e,h1,h2,h3,h4,h5,h6,h7,h8⟩:=h.ex
 exact⟨a,C,dx,fs,sl,us,e,s _ _ h1,h2,h3,h4,h5,h6,s _ _ h7,Paired.ck h8 fun _ _ q=>q.mono s⟩
def Vq (K:W.Frag) (B:bE):Sp:=fun vs H Q _=>∃(bP:V) (p:List Insn) (least:Int) (G:Nat→List S3→Prop),vs=[bP,.int least]∧dg K H bP p∧A6 p least G∧
 ∀v H',ah H H'→kc K H' v (cH p least p.length).1 (cH p least p.length).2→Q v H'
def Apart (sl ja:Addr) (us:List V):Prop:=∀u∈us,∀z,u= .ref z→z≠sl∧z≠ja
theorem Vr {H:Hp} {q:Addr} {xs ys:List V} {v:V} {o:Option (List S3)} (hq:H q=some (.lst xs)) (ha:∀z,v= .ref z→z≠q) (h:dU K H v o):dU K (upd H q (.lst ys)) v o:=by
 cases o with
 |none=>exact h
 |some l=>
  obtain⟨p,vs,rfl,e1,e2,e3⟩:=h
  exact⟨p,vs,rfl,by rw[aL (ha p rfl)];exact e1,Paired.ck e2 fun _ _ z=>mR hq z,e3⟩
theorem Vs {H:Hp} {q p:Addr} {C dx:Addr} {fs gs:List (Str×V)} {xs:List V} (hq:H q=some (.ins C dx fs)) (z:cI K H p xs):cI K (upd H q (.ins C dx gs)) p xs:=by
 rcases z with(z|⟨o,z⟩)|z
 ·exact .inl (.inl (by rw[aL (bF z hq (fun w=>by cases w))];exact z))
 ·exact .inl (.inr ⟨o,by rw[aL (bF z hq (fun w=>by cases w))];exact z⟩)
 ·exact .inr z
theorem Vt {H:Hp} {q:Addr} {C dx:Addr} {fs gs:List (Str×V)} {v:V} {o:Option (List S3)} (hq:H q=some (.ins C dx fs)) (h:dU K H v o):dU K (upd H q (.ins C dx gs)) v o:=by
 cases o with
 |none=>exact h
 |some l=>
  obtain⟨p,vs,rfl,e1,e2,e3⟩:=h
  exact⟨p,vs,rfl,by rw[aL (bF e1 hq (fun w=>by cases w))];exact e1,Paired.ck e2 fun _ _ ⟨p',e,z⟩=>⟨p',e,Vs hq z⟩,e3⟩
theorem DT {α β:Type} {F G:α→β→Prop}:∀{l₁:List α} {l₂:List β},Paired F l₁ l₂→(∀a∈l₁,∀b,F a b→G a b)→Paired G l₁ l₂
 |_,_,.nil,_=> .nil
 |_,_,.cons r t,f=> .cons (f _ (List.mem_cons_self) _ r) (DT t fun a ha b h=>f a (List.mem_cons_of_mem _ ha) b h)
theorem DU (ts:gn):∀ws:List Way,(ws.foldl gC ts).length=ts.length:=fun ws=>by
 induction ws generalizing ts with
 |nil=>rfl
 |cons w r ih=>
  rw[List.foldl_cons,ih]
  unfold gC
  split
  ·rfl
  ·rw[List.length_set]
theorem uO (p:List Insn) (least:Int):∀n,(cH p least n).1.length=p.length
 |0=>by show((List.replicate p.length none).set 0 _).length=_;rw[List.length_set,List.length_replicate]
 |n+1=>by
  show(qa p least n (cH p least n)).1.length=_
  unfold qa
  split
  ·exact uO p least n
  ·split
   ·exact(DU _ _).trans (uO p least n)
   ·exact uO p least n
def Vu:Option Nat→V
 |none=> .aK
 |some k=> .int (k:Int)
structure JI (K:W.Frag) (B:bE) (H:Hp) (ja dx sl:Addr) (G:Nat→List S3→Prop) (ts:gn) (wr:Option Nat) (H':Hp):Prop where
 sm:ah H H'
 ins:H' ja=some (.ins B.nO dx [("states",.ref sl),("wrong",Vu wr)])
 ex:∃us,H' sl=some (.lst us)∧Paired (dU K H') us ts∧Apart sl ja us
 g:∀k l,ts.getD k none=some l→G k l
section
variable {H H1 H2:Hp} {ja dx sl:Addr} {G:Nat→List S3→Prop} {ts:gn} {wr:Option Nat}
theorem JI.mono (h:JI K B H ja dx sl G ts wr H1) (s:ah H1 H2):JI K B H ja dx sl G ts wr H2:=by
 obtain⟨us,h1,h2,h3⟩:=h.ex
 exact⟨ah.trans h.sm s,s _ _ h.ins,⟨us,s _ _ h1,Paired.ck h2 fun _ _ z=>z.mono s,h3⟩,h.g⟩
theorem JI.put {us:List V} {k:Nat} {v:V} {l:List S3} (h:JI K B H ja dx sl G ts wr H1) (hs:H sl=none) (h1:H1 sl=some (.lst us)) (h2:Paired (dU K H1) us ts) (h3:Apart sl ja us) (hv:cE K H1 v l) (hn:∀z,v= .ref z→z≠sl∧z≠ja) (hg:G k l):
  JI K B H ja dx sl G (ts.set k (some l)) wr (upd H1 sl (.lst (us.set k v))):=by
 refine⟨ah.mT h.sm hs,?_,⟨us.set k v,aH,?_,?_⟩,?_⟩
 ·rw[aL (bF h.ins h1 (fun w=>by cases w))]
  exact h.ins
 ·have pr:Paired (dU K H1) (us.set k v) (ts.set k (some l)):=Paired.iy (show dU K H1 v (some l)from hv) k h2
  refine DT pr fun u hu b z=>Vr h1 (fun y e=>?_) z
  rcases List.mem_or_eq_of_mem_set hu with m|m
  ·exact(h3 u m y e).1
  ·exact(hn y (m▸e)).1
 ·intro u hu y e
  rcases List.mem_or_eq_of_mem_set hu with m|m
  ·exact h3 u m y e
  ·exact hn y (m▸e)
 ·intro j l' e
  by_cases hjk:j=k
  ·subst hjk
   by_cases hlt:j<ts.length
   ·rw[List.getD_eq_getElem?_getD,List.getElem?_set_self hlt]at e
    have e':l=l':=Option.some.inj e
    subst e'
    exact hg
   ·rw[List.set_eq_of_length_le (by lia)]at e
    exact h.g j l' e
  ·rw[List.getD_eq_getElem?_getD,List.getElem?_set_ne (fun z=>hjk z.symm),←List.getD_eq_getElem?_getD]at e
   exact h.g j l' e
end
theorem qb:aI ["program","least","count","judgement","place","state","target","after"] ["program","least"] (aG (top 137)):=aM
theorem Vv (U:cF P w K mg A B):Callee P w K mg base 9 "judged" ["program","least"] (Vq K B):=by
 have T:=U.t
 refine aT T.yV qb (fun _ _ _ _ _ _=>ln2 fun _ _=>by kernel_rfl) (fun _ _ _ _ h=>?_) (fun _ _ _ _ _ H vs Q E hr h=>?_)
 ·obtain⟨_,_,_,_,rfl,_⟩:=h
  rfl
 ·obtain⟨bP,p,least,G,rfl,cZ,hJ,k⟩:=h
  have hlen:=cZ.len
  refine⟨_,au (bg (i:=2) qb.nd rfl (Or.inl rfl) (bZ eO (by rfl) T.d8 boot_len (af (CI (pv 0)) ai)))<|
   au (bg (i:=3) qb.nd rfl (Or.inl rfl) (pN U.Ab (Vp U) (hr.mono (by decide)) U.OH (af (pv 2) ai)))<|
   au (fc (aE (UQ T) (hr.mono (by decide)) (af (pv 1) ai)) (eZ (br (pv 3) rfl) aj set_list))<|
   au (kL PassesOwn.never rfl (qF rfl T.jh (af (pv 2) ai)) (gf (i:=4) qb.nd rfl (Or.inl rfl))
    (au (bg (i:=5) qb.nd rfl (Or.inl rfl) (bX bR (br (pv 3) rfl) (pv 4) (fun _ _=>rfl)))<|
    au (aN (bY iH (pv 5) dO (bz _)) (ak Mc) aP)<|
    ak (aN (bI (aE (Tc T) (hr.mono (by decide)) (af (pD (pv 0) (pv 4)) (af (pv 4) (af (pv 5) (af (pv 1) ai))))) (fun _=>rfl))
     (ak (kL PassesOwn.never rfl (sH (aE (UX T) (hr.mono (by decide)) (af (pv 0) (af (pv 4) (af (pv 5) ai))))) (FG rfl (vN (gf (i:=6) qb.nd rfl (Or.inl rfl)) (vN (gf (i:=7) qb.nd rfl (Or.inl rfl)) FE)))
      (ak (aN (bY MC (pv 7) dO (bz _)) (ak (fc (aE (U4 T) (hr.mono (by decide)) (af (bX bR (br (pv 3) rfl) (pv 6) (fun _ _=>rfl)) (af (pv 7) ai))) (eZ (br (pv 3) rfl) (pv 6) set_list))) aP))))
     (ak (aN (bY iH (br (pv 3) rfl) dO (bz _)) (ak (bQ (pv 3) (pv 4) rfl)) aP)))))<|
   ak (ay (pv 3)),?_⟩
  try dsimp only[aad]
  refine⟨_,rfl,_,cZ,fun il ws hil Vw=>?_⟩
  have hwl:=Paired.len Vw
  refine⟨_,_,rfl,Or.inl (aJ.of hil),?_⟩
  rw[hwl]
  refine⟨_,rfl,fun ja dx A7 hdx hne=>?_⟩
  refine⟨ja,dx,p.length,rfl,aH,by lia,fun H1 sl b1 hsl i1 l1=>⟨rfl,?_⟩⟩
  have s1:ah H H1:=fun b o e=>b1 b o (by rw[aL (aY e A7),aL (aY e hdx)];exact e) (aY e A7)
  have Jf:H sl=none:=by
   cases e:H sl with
   |none=>rfl
   |some o=>
    rw[aL (aY e A7),aL (aY e hdx),e]at hsl
    cases hsl
  refine⟨_,rfl,_,rfl,fun v2 H2 s2 n2 f2=>?_⟩
  have i2:=s2 _ _ i1
  have l2:=s2 _ _ l1
  refine⟨_,rfl,ja,_,dx,_,_,rfl,i2,U.jl,U.nP,rfl,_,_,_,_,rfl,rfl,l2,eX (by decide) (by rw[List.length_replicate];lia),?_⟩
  have J0:JI K B H ja dx sl G (List.replicate p.length none) none H2:=by
   refine⟨ah.trans s1 s2,i2,⟨_,l2,DM (show dU K H2 V.aK none from rfl) _,?_⟩,?_⟩
   ·intro u hu y e
    rw[List.eq_of_mem_replicate hu]at e
    cases e
   ·intro j l e
    rw[List.getD_eq_getElem?_getD,List.getElem?_replicate]at e
    split at e<;>cases e
  obtain⟨Vx,q1,q2,q3⟩:=J0.ex
  have Vy:Vx=List.replicate p.length .aK:=by
   have:=q1.symm.trans l2
   cases this
   rfl
  subst Vy
  have J1:=J0.put Jf q1 q2 q3 f2 (k:=0) (fun z e=>⟨fun y=>(by rw[y]at e;have:=n2 sl e;rw[l1]at this;cases this),fun y=>(by rw[y]at e;have:=n2 ja e;rw[i1]at this;cases this)⟩) hJ.start
  refine⟨_,rfl,_,rfl,by lia,by lia,oZ (lo:=0) (n:=((p.length:Nat):Int).toNat) (fun i σ H'=>∃v4 v5 v6 v7,σ=[some bP,some (.int least),some (.int (p.length:Int)),some (.ref ja),v4,v5,v6,v7]∧JI K B H ja dx sl G (cH p least i).1 (cH p least i).2 H')
   ⟨none,none,none,none,rfl,J1⟩ ?_ ?_⟩
  ·rintro i σ H' hi ⟨v4,v5,v6,v7,rfl,J⟩
   have A5:i<p.length:=by lia
   have e0:(0:Int)+(i:Int)=(i:Int):=by lia
   rw[e0]
   obtain⟨us,u1,u2,u3⟩:=J.ex
   have tl:=uO p least i
   have qc:us.length=p.length:=(Paired.len u2).trans tl
   obtain⟨x,hx,fx⟩:=Paired.at u2 (n:=i) (y:=(cH p least i).1.getD i none) (by rw[List.getD_eq_getElem?_getD,List.getElem?_eq_getElem (by lia)];rfl)
   have nx:∀z,x= .ref z→z≠sl∧z≠ja:=u3 x (List.mem_of_getElem? hx)
   refine⟨_,rfl,ja,_,dx,_,_,rfl,J.ins,U.jl,U.nP,rfl,_,rfl,_,_,_,_,rfl,rfl,aJ.of u1,ic hx,?_⟩
   refine⟨_,rfl,rfl,_,rfl,?_⟩
   have et:cH p least (i+1)=qa p least i (cH p least i):=rfl
   unfold qa at et
   cases eo:(cH p least i).1.getD i none with
   |none=>
    rw[eo]at fx et
    have ex:x= .aK:=fx
    subst ex
    refine ao (fun _=>?_) (fun z=>absurd rfl z)
    exact⟨_,_,_,_,rfl,by rw[et];exact J⟩
   |some l=>
    rw[eo]at fx et
    have fs:cE K H' x l:=fx
    obtain⟨px,ZL,rfl,a1,a2,a3⟩:=id fs
    refine ao (fun z=>nomatch (aZ z)) (fun _=>?_)
    have fp:=cZ.mono J.sm
    refine⟨_,rfl,_,fp,_,rfl,ah.refl _,_,_,rfl,by lia,mj (by lia),fun ui Jg=>?_⟩
    have ei:((i:Nat):Int).toNat=i:=by lia
    rw[ei]at Jg
    refine⟨_,rfl,_,rfl,_,rfl,_,_,_,_,_,_,rfl,Jg,fs,_,rfl,?_⟩
    have hG:=J.g i l eo
    refine ao (fun hg=>?_) (fun hg=>?_)
    ·have rO:cH p least (i+1)=_:=et.trans (aPos hg)
     refine⟨_,rfl,_,rfl,_,rfl,_,_,_,_,_,rfl,fp,fs,hJ.way i l A5 hG hg,fun a H3 s3 ⟨wv,DV,pw⟩=>?_⟩
     have J3:=J.mono s3
     have Jh:a≠sl:=fun z=>by
      subst z
      obtain⟨Vz,y1,y2,y3⟩:=J3.ex
      have e1:=DV.symm.trans y1
      cases e1
      have hl3:wv.length=p.length:=(Paired.len y2).trans tl
      obtain⟨w0,hw0⟩:∃y,(cH p least i).1[0]? =some y:=⟨_,List.getElem?_eq_getElem (by lia)⟩
      obtain⟨x0,IE,Ji⟩:=Paired.at y2 hw0
      obtain⟨m0,hm0⟩:∃y,(gz p (i:Int) l)[0]? =some y:=⟨_,List.getElem?_eq_getElem (by rw[←Paired.len pw];lia)⟩
      obtain⟨x1,AQ,p1,uu,DW,t1,_⟩:=Paired.at pw hm0
      have e2:=Option.some.inj (IE.symm.trans AQ)
      subst e2
      subst DW
      cases w0 with
      |none=>exact nomatch (show V.ref p1=V.aK from Ji)
      |some l0=>
       obtain⟨p2,ZM,e3,t2,_⟩:=Ji
       cases e3
       rw[t1]at t2
       cases t2
     refine⟨a,rfl,⟨_,aJ.of DV⟩,B9 (a:=a) (xs:=wv) (fun j σ H'=>∃w6 w7,σ=[some bP,some (.int least),some (.int (p.length:Int)),some (.ref ja),some (.int (i:Int)),some (.ref px),w6,w7]∧H' a=some (.lst wv)∧(∀b o,H3 b=some o→b≠sl→H' b=some o)∧
       JI K B H ja dx sl G (((gz p (i:Int) l).take j).foldl gC (cH p least i).1) (cH p least i).2 H') ⟨_,_,rfl,DV,fun b o e _=>e,J3⟩ (fun j σ H' _ ⟨_,_,_,z,_⟩=>aJ.of z) ?_ ?_⟩
     ·rintro j y σ H4 hy ⟨w6,w7,rfl,DX,k4,J4⟩
      have hjl:j<(gz p (i:Int) l).length:=by rw[←Paired.len pw];exact(List.getElem?_eq_some_iff.mp hy).1
      obtain⟨m0,hm0⟩:∃y,(gz p (i:Int) l)[j]? =some y:=⟨_,List.getElem?_eq_getElem hjl⟩
      obtain⟨x1,AQ,p1,uu,DW,t1,t2,t3⟩:=Paired.at pw hm0
      have e2:=Option.some.inj (hy.symm.trans AQ)
      subst e2
      subst DW
      have VA:∀z,uu= .ref z→z≠sl∧z≠ja:=fun z e=>by
       rcases t3 with t3|t3
       ·refine⟨fun y=>?_,fun y=>?_⟩
        ·subst y;have:=t3 _ e;rw[u1]at this;cases this
        ·subst y;have:=t3 _ e;rw[J.ins]at this;cases this
       ·exact nx z (t3▸e)
      obtain⟨Vz,y1,y2,y3⟩:=J3.ex
      have hp1:p1≠sl:=bF t1 y1 (fun w=>by cases w)
      have t4:=k4 _ _ t1 hp1
      refine⟨p1,_,rfl,cI.of t4,rfl,_,_,rfl,_,_,rfl,rfl,?_⟩
      refine⟨_,rfl,rfl,_,rfl,?_⟩
      have Jj:((gz p (i:Int) l).take (j+1)).foldl gC (cH p least i).1=gC (((gz p (i:Int) l).take j).foldl gC (cH p least i).1) m0:=by
       rw[List.take_add_one,hm0,List.foldl_append]
       rfl
      cases e4:m0.2 with
      |none=>
       rw[e4]at t2
       have e5:uu= .aK:=t2
       subst e5
       refine ao (fun z=>nomatch z) (fun _=>?_)
       refine⟨_,_,rfl,DX,k4,?_⟩
       rw[Jj]
       unfold gC
       rw[e4]
       exact J4
      |some l'=>
       rw[e4]at t2
       have VB:cE K H3 uu l':=t2
       obtain⟨pu,VC,rfl,c1,c2,c3⟩:=id VB
       have Jk:=VA pu rfl
       have fu:cE K H4 (.ref pu) l':=by
        refine⟨pu,VC,rfl,k4 _ _ c1 Jk.1,Paired.ck c2 fun _ _ ⟨p',e,z⟩=>⟨p',e,?_⟩,c3⟩
        rcases z with(z|⟨o,z⟩)|z
        ·exact .inl (.inl (k4 _ _ z (bF z y1 (fun w=>by cases w))))
        ·exact .inl (.inr ⟨o,k4 _ _ z (bF z y1 (fun w=>by cases w))⟩)
        ·exact .inr z
       refine ao (fun _=>?_) (fun z=>absurd rfl z)
       have uP:=hJ.next i l m0 l' A5 hG hg (List.mem_of_getElem? hm0) e4
       obtain⟨VD,z1,z2,z3⟩:=J4.ex
       have VE:VD.length=p.length:=by rw[Paired.len z2,DU];exact tl
       have em:m0.1=((m0.1.toNat:Nat):Int):=by lia
       obtain⟨x5,Jl,VF⟩:=Paired.at z2 (n:=m0.1.toNat) (y:=(((gz p (i:Int) l).take j).foldl gC (cH p least i).1).getD m0.1.toNat none) (by rw[List.getD_eq_getElem?_getD,List.getElem?_eq_getElem (by rw[DU,tl];lia)];rfl)
       have ZN:=z3 x5 (List.mem_of_getElem? Jl)
       refine⟨_,rfl,ja,_,dx,_,_,rfl,J4.ins,U.jl,U.nP,rfl,_,rfl,_,_,_,_,rfl,rfl,aJ.of z1,jf uP.1 Jl,_,rfl,_,_,_,_,rfl,VF,fu,fun v6 H6 s6 n6 f6=>?_⟩
       have J6:=J4.mono s6
       have VG:G m0.1.toNat (p9 ((((gz p (i:Int) l).take j).foldl gC (cH p least i).1).getD m0.1.toNat none) l'):=by
        cases e7:(((gz p (i:Int) l).take j).foldl gC (cH p least i).1).getD m0.1.toNat none with
        |none=>exact uP.2.2
        |some l0=>exact hJ.join _ _ _ (J4.g _ _ e7) uP.2.2
       have VH:∀z,v6= .ref z→z≠sl∧z≠ja:=fun z e=>by
        rcases n6 with n6|n6
        ·refine⟨fun y=>?_,fun y=>?_⟩
         ·subst y;have:=n6 _ e;rw[z1]at this;cases this
         ·subst y;have:=n6 _ e;rw[J4.ins]at this;cases this
        ·rw[n6]at e
         cases e
         exact Jk
       refine⟨_,rfl,ja,_,dx,_,_,rfl,J6.ins,U.jl,U.nP,rfl,_,rfl,_,_,_,_,rfl,rfl,s6 _ _ z1,eX uP.1 (by rw[VE];exact uP.2.1),?_⟩
       have J7:=J6.put Jf (s6 _ _ z1) (Paired.ck z2 fun _ _ z=>z.mono s6) z3 f6 VH VG
       refine⟨_,_,rfl,by rw[aL Jh];exact s6 _ _ DX,fun b o e hb=>by rw[aL hb];exact s6 _ _ (k4 b o e hb),?_⟩
       rw[Jj]
       unfold gC
       rw[e4]
       exact J7
     ·rintro σ H4 ⟨w6,w7,rfl,DX,k4,J4⟩
      rw[Paired.len pw,List.take_length]at J4
      exact⟨_,_,_,_,rfl,by rw[rO];exact J4⟩
    ·have rO:cH p least (i+1)=_:=et.trans (aa hg)
     refine⟨_,rfl,ja,_,dx,_,_,rfl,J.ins,U.jl,U.rq,rfl,rfl,_,rfl,?_⟩
     cases ew:(cH p least i).2 with
     |none=>
      rw[ew]at rO
      refine ao (fun _=>?_) (fun z=>absurd rfl z)
      refine⟨_,rfl,_,rfl,ja,_,dx,_,rfl,J.ins,U.jl,U.rq,(by show 2<1000;decide),?_⟩
      refine⟨_,_,_,_,rfl,?_⟩
      rw[rO]
      refine⟨fun b o e=>by rw[aL (aY e A7)];exact J.sm _ _ e,aH,⟨us,by rw[aL (bF u1 J.ins (fun w=>by cases w))];exact u1,Paired.ck u2 fun _ _ z=>Vt J.ins z,u3⟩,J.g⟩
     |some j=>
      rw[ew]at rO
      refine ao (fun z=>nomatch (aZ z)) (fun _=>?_)
      have J':=J
      rw[ew]at J'
      exact⟨_,_,_,_,rfl,by rw[rO];exact J'⟩
  ·rintro σ H' ⟨v4,v5,v6,v7,rfl,J⟩
   have e:((p.length:Nat):Int).toNat=p.length:=by lia
   rw[e]at J
   obtain⟨us,u1,u2,u3⟩:=J.ex
   refine⟨_,rfl,k _ _ J.sm ⟨ja,_,dx,_,sl,us,rfl,J.ins,U.jl,U.nP,U.rq,rfl,?_,u1,u2⟩⟩
   cases(cH p least p.length).2<;>rfl
def oj (base:Int) (c:Addr):List (Str×V):=[("base",.int base),("cells",.ref c)]
structure rP (B:bE) (H:Hp) (m dx c:Addr) (base:Int) (bs:List Int):Prop where
 ins:H m=some (.ins B.gv dx (oj base c))
 cells:H c=some (.lst (bs.map V.int))
def VI (K:W.Frag) (B:bE):Sp:=fun vs H Q _=>∃(p dx c:Addr) (base:Int),vs=[.ref p,.int base,.ref c]∧H p=some (.ins B.gv dx [])∧∀H',fq p H H'→H' p=some (.ins B.gv dx (oj base c))→Q .aK H'
theorem VJ:aI ["self","base","cells"] ["self","base","cells"] (aG (inClass (top 145) 0)):=aM
theorem Jm (U:cF P w K mg A B):dQ P w K mg base 1 B.C2 ["self","base","cells"] (VI K B):=by
 have T:=U.t
 refine fH U.Ac VJ (fun _ _ _ _ _ _=>Z8 fun _ _ _=>by kernel_rfl) (fun _ _ _ _ h=>?_) (fun _ _ _ _ H vs Q E _ h=>?_)
 ·obtain⟨_,_,_,_,rfl,_⟩:=h
  rfl
 ·obtain⟨p,dx,c,base,rfl,hp,k⟩:=h
  refine⟨_,au (bQ (pv 0) (pv 1) rfl)<|ak (bQ (pv 0) (pv 2) rfl),?_⟩
  try dsimp only[aad]
  refine⟨_,rfl,_,rfl,p,_,dx,_,rfl,hp,U.eG,U.pP,(by decide),?_⟩
  refine⟨_,rfl,_,rfl,p,_,dx,_,rfl,aH,U.eG,U.mw,(by show 1<1000;decide),?_⟩
  rw[dj]
  exact k _ (fun b o e hb=>by rw[aL hb];exact e) aH
def VL (K:W.Frag) (B:bE):Sp:=fun vs H Q _=>∃(m dx c:Addr) (base:Int) (bs:List Int) (a size:Int),vs=[.ref m,.int a,.int size]∧rP B H m dx c base bs∧Q (.bl (k8 base bs.length a size)) H
theorem VM:aI ["self","address","size"] ["self","address","size"] (aG (inClass (top 145) 1)):=aM
theorem Jo (U:cF P w K mg A B):dQ P w K mg base 1 B.C3 ["self","address","size"] (VL K B):=by
 have T:=U.t
 refine fH U.Ad VM (fun _ _ _ _ _ _=>Z8 fun _ _ _=>by kernel_rfl) (fun _ _ _ _ h=>?_) (fun _ _ _ _ H vs Q E _ h=>?_)
 ·obtain⟨_,_,_,_,_,_,_,rfl,_⟩:=h
  rfl
 ·obtain⟨m,dx,c,base,bs,a,size,rfl,hm,k⟩:=h
  refine⟨_,ak (ay (bN (c6 dD (br (pv 0) rfl) (pv 1) (bz _)) (cC (c6 dD (aF bL (pv 1) (pv 2)) (aF bL (br (pv 0) rfl) (bZ eO (by rfl) T.d8 boot_len (af (br (pv 0) rfl) ai))) (bz _))))),?_⟩
  try dsimp only[aad]
  refine⟨_,rfl,m,_,dx,_,_,rfl,hm.ins,U.eG,U.pP,rfl,_,rfl,_,_,rfl,rfl,_,rfl,?_⟩
  unfold k8 at k
  refine ao (fun h1=>?_) (fun h1=>?_)
  ·rw[show decide (base≤a)=true from h1,Bool.true_and]at k
   refine⟨_,rfl,_,rfl,_,_,rfl,rfl,_,rfl,m,_,dx,_,_,rfl,hm.ins,U.eG,U.pP,rfl,_,rfl,m,_,dx,_,_,rfl,hm.ins,U.eG,U.mw,rfl,_,_,rfl,Or.inl (aJ.of hm.cells),_,_,rfl,rfl,_,_,rfl,rfl,?_⟩
   rw[List.length_map]
   exact k
  ·rw[Bool.not_eq_true]at h1
   rw[show decide (base≤a)=false from h1,Bool.false_and]at k
   exact k
def VN (K:W.Frag) (B:bE):Sp:=fun vs H Q _=>∃(m dx c:Addr) (base:Int) (bs:List Int) (a size:Int),vs=[.ref m,.int a,.int size]∧rP B H m dx c base bs∧AllB bs∧(base≤a∧0≤size∧size≤8∧a+size≤base+(bs.length:Int))∧Q (.int (rQ bs (a-base).toNat size.toNat)) H
theorem VO {X:Cx}:vM X .BitOr (B4 fun i j=>Builtin.bitOr i j):=by
 intro pins s σ H x y v u Q I r1 r2 h
 obtain⟨i,j,e1,e2,q⟩:=h
 subst e1;subst e2
 obtain⟨t,rfl⟩:=r1
 obtain⟨t',rfl⟩:=r2
 exact ior_int ⟨.int _,H,I.tok _,⟨_,rfl⟩,q⟩
theorem VP {bs:List Int} (h:AllB bs) (i:Nat):0≤bs.getD i 0∧bs.getD i 0≤255:=by
 rw[List.getD_eq_getElem?_getD]
 cases e:bs[i]? with
 |none=>simp
 |some z=>exact h z (List.mem_of_getElem? e)
theorem iP {bs:List Int} {i:Nat} (h:i<bs.length):(bs.map V.int)[i]? =some (.int (bs.getD i 0)):=by
 rw[List.getElem?_map,List.getD_eq_getElem?_getD,List.getElem?_eq_getElem h]
 rfl
theorem uQ:aI ["self","address","size","first","number","step"] ["self","address","size"] (aG (inClass (top 145) 2)):=aM
theorem Jp (U:cF P w K mg A B):dQ P w K mg base 1 B.C4 ["self","address","size"] (VN K B):=by
 have T:=U.t
 refine fH U.Ae uQ (fun _ _ _ _ _ _=>Z8 fun _ _ _=>by kernel_rfl) (fun _ _ _ _ h=>?_) (fun _ _ _ _ H vs Q E _ h=>?_)
 ·obtain⟨_,_,_,_,_,_,_,rfl,_⟩:=h
  rfl
 ·obtain⟨m,dx,c,base,bs,a,size,rfl,hm,hb,hs,k⟩:=h
  refine⟨_,au (bg (i:=3) uQ.nd rfl (Or.inl rfl) (aF fF (pv 1) (br (pv 0) rfl)))<|
   au (bg (i:=4) uQ.nd rfl (Or.inl rfl) aj)<|
   au (kL PassesOwn.never rfl (qF rfl T.jh (af (pv 2) ai)) (gf (i:=5) uQ.nd rfl (Or.inl rfl))
    (ak (vO (i:=4) uQ.nd rfl (Or.inl rfl) (aF jb (bX bR (br (pv 0) rfl) (aF bL (pv 3) (pv 5)) (fun _ _=>rfl)) (aF iF aj (pv 5))) VO)))<|
   ak (ay (pv 4)),?_⟩
  try dsimp only[aad]
  refine⟨_,rfl,_,rfl,m,_,dx,_,_,rfl,hm.ins,U.eG,U.pP,rfl,_,_,rfl,rfl,_,rfl,_,rfl,by lia,by lia,oZ (lo:=0) (n:=size.toNat) (fun i σ H'=>∃v,σ=[some (.ref m),some (.int a),some (.int size),some (.int (a-base)),some (.int (rQ bs (a-base).toNat i)),v]∧H'=H) ⟨none,rfl,rfl⟩ ?_ ?_⟩
  ·rintro i σ H' hi ⟨v,rfl,rfl⟩
   have e1:(a-base+(0+(i:Int))).toNat=(a-base).toNat+i:=by lia
   have hbi:=VP hb ((a-base).toNat+i)
   refine⟨_,rfl,_,rfl,m,_,dx,_,_,rfl,hm.ins,U.eG,U.mw,rfl,_,rfl,_,rfl,_,_,rfl,rfl,_,_,_,_,rfl,rfl,aJ.of hm.cells,jf (by lia) (by rw[e1];exact iP (by lia)),_,rfl,_,_,rfl,rfl,Or.inl ⟨by decide,by decide⟩,_,_,rfl,rfl,⟨by lia,by lia,by lia⟩,_,_,rfl,rfl,?_⟩
   exact⟨_,rfl,rfl⟩
  ·rintro σ H' ⟨v,rfl,rfl⟩
   exact⟨_,rfl,k⟩
theorem Jq (bs:List Int) (i:Nat) (number:Int):∀n,(putN bs i number n).length=bs.length
 |0=>rfl
 |n+1=>by unfold putN;rw[List.length_set,Jq bs i number n]
def Jr (K:W.Frag) (B:bE):Sp:=fun vs H Q _=>∃(m dx c:Addr) (base:Int) (bs:List Int) (a size number:Int),vs=[.ref m,.int a,.int size,.int number]∧rP B H m dx c base bs∧(base≤a∧0≤size∧size≤8∧a+size≤base+(bs.length:Int))∧
 Q .aK (upd H c (.lst ((putN bs (a-base).toNat number size.toNat).map V.int)))
theorem VQ {H:Hp} {c:Addr} {o:HO} (h:H c=some o):upd H c o=H:=by
 funext b
 unfold upd
 split
 ·rename_i e;rw[e,h]
 ·rfl
theorem DY:aI ["self","address","size","number","first","step"] ["self","address","size","number"] (aG (inClass (top 145) 3)):=aM
theorem DZ (U:cF P w K mg A B):dQ P w K mg base 1 B.C5 ["self","address","size","number"] (Jr K B):=by
 have T:=U.t
 refine fH U.Af DY (fun _ _ _ _ _ _=>ln4 fun _ _ _ _=>by kernel_rfl) (fun _ _ _ _ h=>?_) (fun _ _ _ _ H vs Q E _ h=>?_)
 ·obtain⟨_,_,_,_,_,_,_,_,rfl,_⟩:=h
  rfl
 ·obtain⟨m,dx,c,base,bs,a,size,number,rfl,hm,hs,k⟩:=h
  have VR:m≠c:=bF hm.ins hm.cells (fun w=>by cases w)
  refine⟨_,au (bg (i:=4) DY.nd rfl (Or.inl rfl) (aF fF (pv 1) (br (pv 0) rfl)))<|
   ak (kL PassesOwn.never rfl (qF rfl T.jh (af (pv 2) ai)) (gf (i:=5) DY.nd rfl (Or.inl rfl))
    (ak (fc (aF cT (aF lK (pv 3) (aF iF aj (pv 5))) aj) (eZ (br (pv 0) rfl) (aF bL (pv 4) (pv 5)) set_list)))),?_⟩
  try dsimp only[aad]
  refine⟨_,rfl,_,rfl,m,_,dx,_,_,rfl,hm.ins,U.eG,U.pP,rfl,_,_,rfl,rfl,_,rfl,_,rfl,by lia,by lia,oZ (lo:=0) (n:=size.toNat) (fun i σ H'=>∃v,σ=[some (.ref m),some (.int a),some (.int size),some (.int number),some (.int (a-base)),v]∧H'=upd H c (.lst ((putN bs (a-base).toNat number i).map V.int))) ⟨none,rfl,(VQ hm.cells).symm⟩ ?_ ?_⟩
  ·rintro i σ H' hi ⟨v,rfl,rfl⟩
   have e1:(a-base+(0+(i:Int))).toNat=(a-base).toNat+i:=by lia
   have hm':∀o,(upd H c o) m=some (.ins B.gv dx (oj base c)):=fun o=>by rw[aL VR];exact hm.ins
   refine⟨_,rfl,_,rfl,_,_,rfl,rfl,Or.inl ⟨by decide,by decide⟩,_,_,rfl,rfl,(by show(0:Int)≤_;lia),_,_,rfl,rfl,_,rfl,m,_,dx,_,_,rfl,hm' _,U.eG,U.mw,rfl,_,rfl,_,rfl,_,_,rfl,rfl,_,_,_,_,rfl,rfl,aH,eX (by lia) (by rw[List.length_map,Jq];lia),?_⟩
   rw[dj]
   refine⟨_,rfl,?_⟩
   have e2:putN bs (a-base).toNat number (i+1)=(putN bs (a-base).toNat number i).set ((a-base).toNat+i) _:=rfl
   rw[e2,e1,List.map_set]
  ·rintro σ H' ⟨v,rfl,rfl⟩
   exact k
def D0:Option Int→V
 |none=> .aK
 |some z=> .int z
def oq (rl dm sm hl al:Addr) (place:Int) (ending:Option Int):List (Str×V):=[("registers",.ref rl),("data",.ref dm),("stack",.ref sm),("helpers",.ref hl),("asked",.ref al),("place",.int place),("ending",D0 ending)]
def VS (L:RA) (H:Hp) (u:V) (row:List Int):Prop:=∃z,u= .ref z∧H z=some (.lst (row.map V.int))∧z≠L.rl∧z≠L.dc∧z≠L.sc∧z≠L.al
structure cj (B:bE) (H0:Hp) (L:RA) (us:List V) (H:Hp) (r:RS):Prop where
 same:ah H0 H
 ins:H L.a=some (.ins B.cy L.dx (oq L.rl L.dm L.sm L.hl L.al r.place r.ending))
 regs:H L.rl=some (.lst (r.regs.map V.int))
 dat:rP B H L.dm L.k9 L.dc 4294967296 r.data
 stk:rP B H L.sm L.gD L.sc 8589934080 r.stack
 kg:H0 L.hl=some (.lst (r.bw.map V.int))
 ask:H L.al=some (.lst us)
 rows:Paired (VS L H) us r.asked
 fr:H0 L.a=none∧H0 L.rl=none∧H0 L.dc=none∧H0 L.sc=none∧H0 L.al=none
 ne:L.rl≠L.dc∧L.rl≠L.sc∧L.rl≠L.al∧L.dc≠L.sc∧L.dc≠L.al∧L.sc≠L.al
def ju (B:bE) (H0:Hp) (v:V) (H:Hp) (r:RS):Prop:=∃L us,v= .ref L.a∧cj B H0 L us H r
section
variable {H0 H H':Hp} {L:RA} {us:List V} {r:RS}
theorem cj.mono (h:cj B H0 L us H r) (s:ah H H'):cj B H0 L us H' r:=
 ⟨ah.trans h.same s,s _ _ h.ins,s _ _ h.regs,⟨s _ _ h.dat.ins,s _ _ h.dat.cells⟩,⟨s _ _ h.stk.ins,s _ _ h.stk.cells⟩,h.kg,s _ _ h.ask,Paired.ck h.rows fun _ _ ⟨z,e,q,n⟩=>⟨z,e,s _ _ q,n⟩,h.fr,h.ne⟩
theorem cj.A8 (h:cj B H0 L us H r) (g:List Int):cj B H0 L us (upd H L.rl (.lst (g.map V.int))) {r with regs:=g}:=by
 have k:∀b o,H b=some o→b≠L.rl→(upd H L.rl (.lst (g.map V.int))) b=some o:=fun b o e n=>by rw[aL n];exact e
 have n1:=h.ne
 refine⟨ah.mT h.same h.fr.2.1,k _ _ h.ins (bF h.ins h.regs (fun w=>by cases w)),aH,⟨k _ _ h.dat.ins (bF h.dat.ins h.regs (fun w=>by cases w)),k _ _ h.dat.cells (Ne.symm n1.1)⟩,⟨k _ _ h.stk.ins (bF h.stk.ins h.regs (fun w=>by cases w)),k _ _ h.stk.cells (Ne.symm n1.2.1)⟩,
  h.kg,k _ _ h.ask (Ne.symm n1.2.2.1),Paired.ck h.rows fun _ _ ⟨z,e,q,n⟩=>⟨z,e,k _ _ q n.1,n⟩,h.fr,h.ne⟩
theorem cj.VT (h:cj B H0 L us H r) (g:List Int):cj B H0 L us (upd H L.dc (.lst (g.map V.int))) {r with data:=g}:=by
 have k:∀b o,H b=some o→b≠L.dc→(upd H L.dc (.lst (g.map V.int))) b=some o:=fun b o e n=>by rw[aL n];exact e
 have n1:=h.ne
 refine⟨ah.mT h.same h.fr.2.2.1,k _ _ h.ins (bF h.ins h.dat.cells (fun w=>by cases w)),k _ _ h.regs n1.1,⟨k _ _ h.dat.ins (bF h.dat.ins h.dat.cells (fun w=>by cases w)),aH⟩,⟨k _ _ h.stk.ins (bF h.stk.ins h.dat.cells (fun w=>by cases w)),k _ _ h.stk.cells (Ne.symm n1.2.2.2.1)⟩,
  h.kg,k _ _ h.ask (Ne.symm n1.2.2.2.2.1),Paired.ck h.rows fun _ _ ⟨z,e,q,n⟩=>⟨z,e,k _ _ q n.2.1,n⟩,h.fr,h.ne⟩
theorem cj.setStack (h:cj B H0 L us H r) (g:List Int):cj B H0 L us (upd H L.sc (.lst (g.map V.int))) {r with stack:=g}:=by
 have k:∀b o,H b=some o→b≠L.sc→(upd H L.sc (.lst (g.map V.int))) b=some o:=fun b o e n=>by rw[aL n];exact e
 have n1:=h.ne
 refine⟨ah.mT h.same h.fr.2.2.2.1,k _ _ h.ins (bF h.ins h.stk.cells (fun w=>by cases w)),k _ _ h.regs n1.2.1,⟨k _ _ h.dat.ins (bF h.dat.ins h.stk.cells (fun w=>by cases w)),k _ _ h.dat.cells n1.2.2.2.1⟩,⟨k _ _ h.stk.ins (bF h.stk.ins h.stk.cells (fun w=>by cases w)),aH⟩,
  h.kg,k _ _ h.ask (Ne.symm n1.2.2.2.2.2),Paired.ck h.rows fun _ _ ⟨z,e,q,n⟩=>⟨z,e,k _ _ q n.2.2.1,n⟩,h.fr,h.ne⟩
theorem kh {H:Hp} {a b C dx:Addr} {fs:List (Str×V)} {xs:List V} (h:H a=some (.ins C dx fs)) (h':H b=some (.lst xs)):b≠a:=bF h' h (fun w=>by cases w)
theorem cj.kj (h:cj B H0 L us H r) (ou:L.dm≠L.a∧L.sm≠L.a) (pl:Int) (en:Option Int):cj B H0 L us (upd H L.a (.ins B.cy L.dx (oq L.rl L.dm L.sm L.hl L.al pl en))) {r with place:=pl,ending:=en}:=by
 have k:∀b o,H b=some o→b≠L.a→(upd H L.a (.ins B.cy L.dx (oq L.rl L.dm L.sm L.hl L.al pl en))) b=some o:=fun b o e n=>by rw[aL n];exact e
 refine⟨fun b o e=>k _ _ (h.same _ _ e) (aY e h.fr.1),aH,k _ _ h.regs (kh h.ins h.regs),⟨k _ _ h.dat.ins ou.1,k _ _ h.dat.cells (kh h.ins h.dat.cells)⟩,⟨k _ _ h.stk.ins ou.2,k _ _ h.stk.cells (kh h.ins h.stk.cells)⟩,
  h.kg,k _ _ h.ask (kh h.ins h.ask),Paired.ck h.rows fun _ _ ⟨z,e,q,n⟩=>⟨z,e,k _ _ q (kh h.ins q),n⟩,h.fr,h.ne⟩
theorem Js {base:Int} {c rl dm sm hl al:Addr} {pl:Int} {en:Option Int} {C C' dx gP:Addr}:HO.ins C dx (oj base c)≠HO.ins C' gP (oq rl dm sm hl al pl en):=fun w=>by
 injection w with _ _ w
 exact absurd (congrArg List.length w) (by show ¬(2=7);decide)
theorem cj.apart (h:cj B H0 L us H r):L.dm≠L.a∧L.sm≠L.a:=⟨bF h.dat.ins h.ins Js,bF h.stk.ins h.ins Js⟩
end
def VU (K:W.Frag) (B:bE):Sp:=fun vs H Q _=>∃(p dx dl hl:Addr) (data bw:List Int) (H0:Hp),vs=[.ref p,.ref dl,.ref hl]∧H p=some (.ins B.cy dx [])∧H dl=some (.lst (data.map V.int))∧H0 hl=some (.lst (bw.map V.int))∧ah H0 H∧H0 p=none∧data.length≤256∧
 ∀H',ju B H0 (.ref p) H' (dW data bw)→Q .aK H'
theorem VV:aI ["self","data","helpers"] ["self","data","helpers"] (aG (inClass (top 146) 0)):=aM
theorem VW (U:cF P w K mg A B):dQ P w K mg base 3 B.C6 ["self","data","helpers"] (VU K B):=by
 have T:=U.t
 refine fH U.Ag VV (fun _ _ _ _ _ _=>Z8 fun _ _ _=>by kernel_rfl) (fun _ _ _ _ h=>?_) (fun _ _ _ _ H vs Q E hr h=>?_)
 ·obtain⟨_,_,_,_,_,_,_,rfl,_⟩:=h
  rfl
 ·obtain⟨p,dx,dl,hl,data,bw,H0,rfl,hp,hdl,rR,D3,hp0,hdn,k⟩:=h
  refine⟨_,au (bQ (pv 0) (bO (af aj (af (aU T.tP) (af (bZ eO (by rfl) T.d8 boot_len (af (pv 1) ai)) (af aj (af aj (af aj (af aj (af aj (af aj (af aj (af (aF bL (aU T.tQ) (aU T.lU)) ai)))))))))))) rfl)<|
   au (bQ (pv 0) (pN U.uh (Jm U) (hr.mono (by decide)) U.HW (af (aU T.tP) (af (lO pq (by rfl) T.kR boot_list (af (pv 1) ai)) ai))) rfl)<|
   au (bQ (pv 0) (pN U.uh (Jm U) (hr.mono (by decide)) U.HW (af (aU T.tQ) (af (aF Cq (bO (af aj ai)) (aU T.lU)) ai))) rfl)<|
   au (bQ (pv 0) (pv 2) rfl)<|au (bQ (pv 0) (bO ai) rfl)<|au (bQ (pv 0) aj rfl)<|ak (bQ (pv 0) dO rfl),?_⟩
  try dsimp only[aad]
  have cl:=U.eV
  refine⟨_,rfl,_,_,rfl,Or.inl (aJ.of hdl),_,_,rfl,rfl,(by show 11≤sizeLine;decide),fun rl hrl=>?_⟩
  rw[List.length_map]
  have oi:p≠rl:=aY hp hrl
  refine⟨_,rfl,p,_,dx,_,rfl,(by rw[aL oi];exact hp),cl,U.eH,(by decide),?_⟩
  have t1:∀b o,H b=some o→b≠p→(upd (upd H rl (.lst [.int 0,.int 4294967296,.int (data.length:Int),.int 0,.int 0,.int 0,.int 0,.int 0,.int 0,.int 0,.int (8589934080+512)])) p (.ins B.cy dx (bx "registers" (.ref rl) []))) b=some o:=fun b o e hb=>by
   rw[aL hb,aL (aY e hrl)];exact e
  have i1:(upd (upd H rl (.lst [.int 0,.int 4294967296,.int (data.length:Int),.int 0,.int 0,.int 0,.int 0,.int 0,.int 0,.int 0,.int (8589934080+512)])) p (.ins B.cy dx (bx "registers" (.ref rl) []))) p=_:=aH
  have r1:(upd (upd H rl (.lst [.int 0,.int 4294967296,.int (data.length:Int),.int 0,.int 0,.int 0,.int 0,.int 0,.int 0,.int 0,.int (8589934080+512)])) p (.ins B.cy dx (bx "registers" (.ref rl) []))) rl=some (.lst ([0,4294967296,(data.length:Int),0,0,0,0,0,0,0,8589934592].map V.int)):=by
   rw[aL (Ne.symm oi),aH];rfl
  show eN _ _ _ _ (upd (upd H rl (.lst [.int 0,.int 4294967296,.int (data.length:Int),.int 0,.int 0,.int 0,.int 0,.int 0,.int 0,.int 0,.int (8589934080+512)])) p (.ins B.cy dx (bx "registers" (.ref rl) [])))
  generalize upd (upd H rl (.lst [.int 0,.int 4294967296,.int (data.length:Int),.int 0,.int 0,.int 0,.int 0,.int 0,.int 0,.int 0,.int (8589934080+512)])) p (.ins B.cy dx (bx "registers" (.ref rl) []))=G1 at t1 i1 r1 ⊢
  have VX:dl≠p:=kh hp hdl
  refine⟨_,rfl,_,_,rfl,Or.inl (aJ.of (t1 _ _ hdl VX)),fun dc hdc=>?_⟩
  intro dm k9 ou Jt ZO
  refine⟨dm,k9,dc,_,rfl,aH,fun H2 b2 f2=>⟨rfl,?_⟩⟩
  have s2:ah G1 H2:=fun b o e=>b2 b o (by rw[aL (aY (ah.new hdc _ _ e) ou),aL (aY (ah.new hdc _ _ e) Jt)];exact ah.new hdc _ _ e) (aY (ah.new hdc _ _ e) ou)
  have d2:H2 dc=some (.lst (data.map V.int)):=b2 _ _ (by rw[aL (aY aH ou),aL (aY aH Jt)];exact aH) (aY aH ou)
  refine⟨_,rfl,p,_,dx,_,rfl,s2 _ _ i1,cl,U.pQ,(by show 1<1000;decide),?_⟩
  have D4:p≠dc:=aY i1 hdc
  have D5:p≠dm:=aY (ah.new hdc _ _ i1) ou
  have VY:rl≠dc:=aY r1 hdc
  have t2:∀b o,G1 b=some o→b≠p→(upd H2 p (.ins B.cy dx (bx "data" (.ref dm) (bx "registers" (.ref rl) [])))) b=some o:=fun b o e hb=>by rw[aL hb];exact s2 _ _ e
  have i2:(upd H2 p (.ins B.cy dx (bx "data" (.ref dm) (bx "registers" (.ref rl) [])))) p=_:=aH
  have m2:(upd H2 p (.ins B.cy dx (bx "data" (.ref dm) (bx "registers" (.ref rl) [])))) dm=some (.ins B.gv k9 (oj 4294967296 dc)):=by rw[aL (Ne.symm D5)];exact f2
  have c2:(upd H2 p (.ins B.cy dx (bx "data" (.ref dm) (bx "registers" (.ref rl) [])))) dc=some (.lst (data.map V.int)):=by rw[aL (Ne.symm D4)];exact d2
  have r2:=t2 _ _ r1 (Ne.symm oi)
  show eN _ _ _ _ (upd H2 p (.ins B.cy dx (bx "data" (.ref dm) (bx "registers" (.ref rl) []))))
  generalize upd H2 p (.ins B.cy dx (bx "data" (.ref dm) (bx "registers" (.ref rl) [])))=G2 at t2 i2 m2 c2 r2 ⊢
  refine⟨cB,fun q0 oh=>?_⟩
  refine⟨_,_,_,rfl,rfl,aH,by decide,by decide,(by show 512≤sizeLine;decide),fun sc hsc=>?_⟩
  rw[show((512:Int).toNat)=512 from rfl,rep1]
  have s3:ah G2 (upd G2 q0 (.lst [.int 0])):=ah.new oh
  generalize upd G2 q0 (.lst [.int 0])=G3 at s3 hsc ⊢
  intro sm gD hsm Ju ZP
  refine⟨sm,gD,sc,_,rfl,aH,fun H4 b4 f4=>⟨rfl,?_⟩⟩
  have s4:ah G3 H4:=fun b o e=>b4 b o (by rw[aL (aY (ah.new hsc _ _ e) hsm),aL (aY (ah.new hsc _ _ e) Ju)];exact ah.new hsc _ _ e) (aY (ah.new hsc _ _ e) hsm)
  have d4:H4 sc=some (.lst (List.replicate 512 (.int 0))):=b4 _ _ (by rw[aL (aY aH hsm),aL (aY aH Ju)];exact aH) (aY aH hsm)
  refine⟨_,rfl,p,_,dx,_,rfl,s4 _ _ (s3 _ _ i2),cl,U.rB,(by show 2<1000;decide),?_⟩
  have Jv:p≠sc:=aY (s3 _ _ i2) hsc
  have Jw:p≠sm:=aY (ah.new hsc _ _ (s3 _ _ i2)) hsm
  have VZ:rl≠sc:=aY (s3 _ _ r2) hsc
  have V0:dc≠sc:=aY (s3 _ _ c2) hsc
  have t5:∀b o,G2 b=some o→b≠p→(upd H4 p (.ins B.cy dx (bx "stack" (.ref sm) (bx "data" (.ref dm) (bx "registers" (.ref rl) []))))) b=some o:=fun b o e hb=>by rw[aL hb];exact s4 _ _ (s3 _ _ e)
  have i5:(upd H4 p (.ins B.cy dx (bx "stack" (.ref sm) (bx "data" (.ref dm) (bx "registers" (.ref rl) []))))) p=_:=aH
  have m5:(upd H4 p (.ins B.cy dx (bx "stack" (.ref sm) (bx "data" (.ref dm) (bx "registers" (.ref rl) []))))) sm=some (.ins B.gv gD (oj 8589934080 sc)):=by rw[aL (Ne.symm Jw)];exact f4
  have c5:(upd H4 p (.ins B.cy dx (bx "stack" (.ref sm) (bx "data" (.ref dm) (bx "registers" (.ref rl) []))))) sc=some (.lst ((List.replicate 512 (0:Int)).map V.int)):=by rw[aL (Ne.symm Jv),List.map_replicate];exact d4
  have r5:=t5 _ _ r2 (Ne.symm oi)
  have x5:=t5 _ _ m2 (Ne.symm D5)
  have y5:=t5 _ _ c2 (Ne.symm D4)
  show eN _ _ _ _ (upd H4 p (.ins B.cy dx (bx "stack" (.ref sm) (bx "data" (.ref dm) (bx "registers" (.ref rl) [])))))
  generalize upd H4 p (.ins B.cy dx (bx "stack" (.ref sm) (bx "data" (.ref dm) (bx "registers" (.ref rl) []))))=G5 at t5 i5 m5 c5 r5 x5 y5 ⊢
  refine⟨_,rfl,_,rfl,p,_,dx,_,rfl,i5,cl,U.uq,(by show 3<1000;decide),?_⟩
  refine⟨uH,fun al hal=>?_⟩
  have D6:p≠al:=aY aH hal
  have uR:G5 al=none:=by rw[aL (Ne.symm D6)]at hal;exact hal
  refine⟨_,rfl,p,_,dx,_,rfl,(by rw[aL D6];exact aH),cl,U.nQ,(by show 4<1000;decide),?_⟩
  refine⟨_,rfl,p,_,dx,_,rfl,aH,cl,U.ie,(by show 5<1000;decide),?_⟩
  rw[dj]
  refine⟨_,rfl,p,_,dx,_,rfl,aH,cl,U.jS,(by show 6<1000;decide),?_⟩
  rw[dj]
  have fin:∀o b u,G5 b=some u→b≠p→(upd (upd (upd G5 p (.ins B.cy dx (bx "helpers" (.ref hl) (bx "stack" (.ref sm) (bx "data" (.ref dm) (bx "registers" (.ref rl) [])))))) al (.lst [])) p o) b=some u:=fun o b u e hb=>by
   rw[aL hb,aL (aY e uR),aL hb];exact e
  have up:∀b o,H b=some o→b≠p→G5 b=some o:=fun b o e hb=>t5 _ _ (t2 _ _ (t1 _ _ e hb) hb) hb
  have fr:∀(G:Hp) (c:Addr),(∀b o,H b=some o→b≠p→G b=some o)→G c=none→H0 c=none:=fun G c t h=>by
   cases e:H0 c with
   |none=>rfl
   |some o=>
    have:=t c o (D3 _ _ e) (aY e hp0)
    rw[h]at this
    cases this
  refine k _ ⟨⟨p,dx,rl,dm,k9,dc,sm,gD,sc,hl,al⟩,[],rfl,fun b o e=>fin _ _ _ (up _ _ (D3 _ _ e) (aY e hp0)) (aY e hp0),aH,fin _ _ _ r5 (Ne.symm oi),⟨fin _ _ _ x5 (Ne.symm D5),fin _ _ _ y5 (Ne.symm D4)⟩,⟨fin _ _ _ m5 (Ne.symm Jw),fin _ _ _ c5 (Ne.symm Jv)⟩,rR,by rw[aL (Ne.symm D6)];exact aH,.nil,
   ⟨hp0,ah.free D3 hrl,fr G1 dc t1 hdc,fr G3 sc (fun b o e hb=>s3 _ _ (t2 _ _ (t1 _ _ e hb) hb)) hsc,fr G5 al up uR⟩,VY,VZ,aY r5 uR,V0,aY y5 uR,aY c5 uR⟩
def memC (L:RA):Bool→Addr|true=>L.dc|false=>L.sc
def jv (L:RA):Bool→Addr|true=>L.k9|false=>L.gD
section
variable {H0 H:Hp} {L:RA} {us:List V} {r:RS}
theorem cj.mem (h:cj B H0 L us H r) (w:Bool):rP B H (gE L w) (jv L w) (memC L w) (baseOf w) (cellsOf r w):=by
 cases w
 ·exact h.stk
 ·exact h.dat
theorem cj.Ba (h:cj B H0 L us H r) (w:Bool) (g:List Int):cj B H0 L us (upd H (memC L w) (.lst (g.map V.int))) (A9 r w g):=by
 cases w
 ·exact h.setStack g
 ·exact h.VT g
end
def V1 (L:RA):Option Bool→V|some w=> .ref (gE L w)|none=> .aK
theorem Jx {r:RS} {a n:Int} {w:Bool} (h:ko r a n=some w):baseOf w≤a∧a+n≤baseOf w+((cellsOf r w).length:Int):=by
 unfold ko at h
 split at h
 ·rename_i z
  cases h
  unfold k8 at z
  simp at z
  exact z
 ·split at h
  ·rename_i z
   cases h
   unfold k8 at z
   simp at z
   exact z
  ·cases h
def V2 (K:W.Frag) (B:bE):Sp:=fun vs H Q _=>∃(H0:Hp) (L:RA) (us:List V) (r:RS) (a n:Int),vs=[.ref L.a,.int a,.int n]∧cj B H0 L us H r∧Q (V1 L (ko r a n)) H
theorem V3:aI ["run","address","size"] ["run","address","size"] (aG (top 147)):=aM
theorem Jy (U:cF P w K mg A B):Callee P w K mg base 2 "memory_around" ["run","address","size"] (V2 K B):=by
 have T:=U.t
 refine aT T.yW V3 (fun _ _ _ _ _ _=>Z8 fun _ _ _=>by kernel_rfl) (fun _ _ _ _ h=>?_) (fun _ _ _ _ _ H vs Q E hr h=>?_)
 ·obtain⟨_,_,_,_,_,_,rfl,_⟩:=h
  rfl
 ·obtain⟨H0,L,us,r,a,n,rfl,hR,k⟩:=h
  refine⟨_,au (aN (bI (jj U.eG U.um (Jo U) (hr.mono (by decide)) (br (pv 0) rfl) (af (pv 1) (af (pv 2) ai))) (fun _=>rfl)) (ak (ay (br (pv 0) rfl))) aP)<|
   au (aN (bI (jj U.eG U.um (Jo U) (hr.mono (by decide)) (br (pv 0) rfl) (af (pv 1) (af (pv 2) ai))) (fun _=>rfl)) (ak (ay (br (pv 0) rfl))) aP)<|
   ak (ay dO),?_⟩
  try dsimp only[aad]
  have cl:=U.eV
  unfold ko at k
  refine⟨_,rfl,L.a,_,L.dx,_,_,rfl,hR.ins,cl,U.pQ,rfl,L.dm,L.k9,_,rfl,hR.dat.ins,rfl,_,rfl,_,rfl,L.dm,L.k9,L.dc,_,_,_,_,rfl,hR.dat,_,rfl,?_⟩
  refine ao (fun h1=>?_) (fun h1=>?_)
  ·rw[aPos h1]at k
   exact⟨_,rfl,L.a,_,L.dx,_,_,rfl,hR.ins,cl,U.pQ,rfl,k⟩
  ·rw[aa h1]at k
   refine⟨_,rfl,L.a,_,L.dx,_,_,rfl,hR.ins,cl,U.rB,rfl,L.sm,L.gD,_,rfl,hR.stk.ins,rfl,_,rfl,_,rfl,L.sm,L.gD,L.sc,_,_,_,_,rfl,hR.stk,_,rfl,?_⟩
   refine ao (fun h2=>?_) (fun h2=>?_)
   ·rw[aPos h2]at k
    exact⟨_,rfl,L.a,_,L.dx,_,_,rfl,hR.ins,cl,U.rB,rfl,k⟩
   ·rw[aa h2]at k
    exact k
theorem mV.at_ {r:RS} (h:mV r) (i:Nat):0≤r.regs.getD i 0∧r.regs.getD i 0<2^64:=by
 rw[List.getD_eq_getElem?_getD]
 cases e:r.regs[i]? with
 |none=>simp
 |some z=>exact h.regs z (List.mem_of_getElem? e)
def V4 (K:W.Frag) (B:bE):Sp:=fun vs H Q _=>∃(H0:Hp) (L:RA) (us:List V) (r:RS) (d9:V) (ins:Insn),vs=[.ref L.a,d9]∧cj B H0 L us H r∧bf K H d9 ins∧mV r∧ins.src≤10∧Q (.int (kr r ins)) H
theorem V5:aI ["run","ins"] ["run","ins"] (aG (top 148)):=aM
theorem Jz (U:cF P w K mg A B):Callee P w K mg base 1 "operand_word" ["run","ins"] (V4 K B):=by
 have T:=U.t
 refine aT T.yX V5 (fun _ _ _ _ _ _=>ln2 fun _ _=>by kernel_rfl) (fun _ _ _ _ h=>?_) (fun _ _ _ _ _ H vs Q E _ h=>?_)
 ·obtain⟨_,_,_,_,_,_,rfl,_⟩:=h
  rfl
 ·obtain⟨H0,L,us,r,d9,ins,rfl,hR,fz,ok,hs,k⟩:=h
  refine⟨_,ak (ay (cN (bI (az (pv 1)) (fun _=>rfl)) (bX bR (br (pv 0) rfl) (az (pv 1)) (fun _ _=>rfl)) (aF cT (az (pv 1)) (aU T.qX)))),?_⟩
  try dsimp only[aad]
  unfold kr at k
  refine⟨_,rfl,_,fz.nG,_,rfl,?_⟩
  have hl:=ok.len
  refine ao (fun h1=>?_) (fun h1=>?_)
  ·rw[aPos h1]at k
   exact⟨_,rfl,L.a,_,L.dx,_,_,rfl,hR.ins,U.eV,U.eH,rfl,_,rfl,_,fz.ff,_,_,_,_,rfl,rfl,aJ.of hR.regs,ic (iP (by lia)),k⟩
  ·rw[aa h1]at k
   exact⟨_,rfl,_,fz.c9,_,_,rfl,rfl,k⟩
def rS (K:W.Frag) (B:bE) (c:Insn→Prop) (f:List Insn→RS→Insn→RS):Sp:=fun vs H Q _=>∃(bP:V) (p:List Insn) (iQ:V) (r:RS) (d9:V) (ins:Insn) (H0:Hp),vs=[bP,iQ,d9]∧dg K H0 bP p∧bf K H0 d9 ins∧ju B H0 iQ H r∧mV r∧JA p r ins∧c ins∧
 ∀H',ju B H0 iQ H' (f p r ins)→Q .aK H'
def V6 (K:W.Frag) (B:bE):Sp:=rS K B (fun i=>i.cls=0) pM
theorem V7:aI ["program","run","ins"] ["program","run","ins"] (aG (top 149)):=aM
theorem V8 (U:cF P w K mg A B):Callee P w K mg base 2 "step_wide" ["program","run","ins"] (V6 K B):=by
 have T:=U.t
 refine aT T.yY V7 (fun _ _ _ _ _ _=>Z8 fun _ _ _=>by kernel_rfl) (fun _ _ _ _ h=>?_) (fun _ _ _ _ _ H vs Q E hr h=>?_)
 ·obtain⟨_,_,_,_,_,_,_,rfl,_⟩:=h
  rfl
 ·obtain⟨bP,p,iQ,r,d9,ins,H0,rfl,cZ,fz,⟨L,us,rfl,hR⟩,ok,so,hc,k⟩:=h
  refine⟨_,au (fc (aE (Iq T) (hr.mono (by decide)) (af (pv 0) (af (br (pv 1) rfl) ai))) (eZ (br (pv 1) rfl) (az (pv 2)) set_list))<|ak (o6 (pv 1) aj o7),?_⟩
  try dsimp only[aad]
  have hl:=ok.len
  have hd:=so.reg.1
  refine⟨_,rfl,_,rfl,L.a,_,L.dx,_,_,rfl,hR.ins,U.eV,U.ie,rfl,_,_,_,rfl,cZ.mono hR.same,⟨so.at_.1,so.wide hc⟩,_,rfl,L.a,_,L.dx,_,_,rfl,hR.ins,U.eV,U.eH,rfl,_,rfl,_,(fz.mono hR.same).bA,_,_,_,_,rfl,rfl,hR.regs,eX (by lia) (by rw[List.length_map];lia),?_⟩
  rw[←List.map_set,Int.toNat_natCast]
  have dJ:=hR.A8 (r.regs.set ins.dst (nW p r.place))
  refine⟨_,rfl,L.a,_,L.dx,_,_,rfl,dJ.ins,U.eV,U.ie,rfl,_,_,rfl,rfl,L.dx,_,dJ.ins,(by show 7<1000;decide),?_⟩
  exact k _ ⟨L,us,rfl,dJ.kj dJ.apart (r.place+2) r.ending⟩
def V9 (K:W.Frag) (B:bE):Sp:=rS K B (fun i=>i.cls=7∨i.cls=4) uS
theorem Wa {r:RS} {ins:Insn} (ok:mV r):0≤kr r ins∧kr r ins<2^64:=by
 unfold kr
 split
 ·exact ok.at_ _
 ·have:=bitAnd_range ins.imm (show(0:Int)≤18446744073709551615 by decide)
  lia
theorem Wb:aI ["program","run","ins"] ["program","run","ins"] (aG (top 150)):=aM
theorem JB (U:cF P w K mg A B):Callee P w K mg base 6 "step_arithmetic" ["program","run","ins"] (V9 K B):=by
 have T:=U.t
 refine aT T.yZ Wb (fun _ _ _ _ _ _=>Z8 fun _ _ _=>by kernel_rfl) (fun _ _ _ _ h=>?_) (fun _ _ _ _ _ H vs Q E hr h=>?_)
 ·obtain⟨_,_,_,_,_,_,_,rfl,_⟩:=h
  rfl
 ·obtain⟨bP,p,iQ,r,d9,ins,H0,rfl,cZ,fz,⟨L,us,rfl,hR⟩,ok,so,hc,k⟩:=h
  refine⟨_,au (fc (aE (ID T) (hr.mono (by decide)) (af (pv 2) (af (bX bR (br (pv 1) rfl) (az (pv 2)) (fun _ _=>rfl)) (af (aE (Jz U) (hr.mono (by decide)) (af (pv 1) (af (pv 2) ai))) ai)))) (eZ (br (pv 1) rfl) (az (pv 2)) set_list))<|ak (o6 (pv 1) aj o7),?_⟩
  try dsimp only[aad]
  have hl:=ok.len
  have hd:=so.reg
  have fi:=fz.mono hR.same
  have b1:=ok.at_ ins.dst
  have b2:=Wa (ins:=ins) ok
  refine⟨_,rfl,_,rfl,L.a,_,L.dx,_,_,rfl,hR.ins,U.eV,U.eH,rfl,_,rfl,_,fi.bA,_,_,_,_,rfl,rfl,aJ.of hR.regs,ic (iP (by lia)),_,rfl,_,rfl,H0,L,us,r,_,_,rfl,hR,fi,ok,hd.2,_,_,_,_,rfl,fi,⟨so.alu hc,b1.1,b1.2,b2.1,b2.2⟩,
   _,rfl,L.a,_,L.dx,_,_,rfl,hR.ins,U.eV,U.eH,rfl,_,rfl,_,fi.bA,_,_,_,_,rfl,rfl,hR.regs,eX (by lia) (by rw[List.length_map];lia),?_⟩
  rw[←List.map_set,Int.toNat_natCast]
  have dJ:=hR.A8 (r.regs.set ins.dst (jY ins (r.regs.getD ins.dst 0) (kr r ins)))
  refine⟨_,rfl,L.a,_,L.dx,_,_,rfl,dJ.ins,U.eV,U.ie,rfl,_,_,rfl,rfl,L.dx,_,dJ.ins,(by show 7<1000;decide),?_⟩
  exact k _ ⟨L,us,rfl,dJ.kj dJ.apart (r.place+1) r.ending⟩
def Wc (K:W.Frag) (B:bE):Sp:=rS K B (fun i=>i.cls=1) nN
theorem JC {r:RS} (ok:mV r) (w:Bool):AllB (cellsOf r w):=by
 cases w
 ·exact ok.stk
 ·exact ok.dat
theorem uT:aI ["program","run","ins","address","memory","number"] ["program","run","ins"] (aG (top 151)):=aM
theorem Wd (U:cF P w K mg A B):Callee P w K mg base 3 "step_load" ["program","run","ins"] (Wc K B):=by
 have T:=U.t
 refine aT T.y9 uT (fun _ _ _ _ _ _=>Z8 fun _ _ _=>by kernel_rfl) (fun _ _ _ _ h=>?_) (fun _ _ _ _ _ H vs Q E hr h=>?_)
 ·obtain⟨_,_,_,_,_,_,_,rfl,_⟩:=h
  rfl
 ·obtain⟨bP,p,iQ,r,d9,ins,H0,rfl,cZ,fz,⟨L,us,rfl,hR⟩,ok,so,hc,k⟩:=h
  have qz:=nU ins
  refine⟨_,au (bg (i:=3) uT.nd rfl (Or.inl rfl) (aF bL (bX bR (br (pv 1) rfl) (az (pv 2)) (fun _ _=>rfl)) (az (pv 2))))<|
   au (bg (i:=4) uT.nd rfl (Or.inl rfl) (aE (Jy U) (hr.mono (by decide)) (af (pv 1) (af (pv 3) (af (az (pv 2)) ai)))))<|
   au (aN (bY iH (pv 4) dO (bz _)) (au (bQ (pv 1) (aU T.tS) rfl) (ak vJ)) aP)<|
   au (bg (i:=5) uT.nd rfl (Or.inl rfl) (jj U.eG U.uo (Jp U) (hr.mono (by decide)) (pv 4) (af (pv 3) (af (az (pv 2)) ai))))<|
   au (aN (aX (aO (az (pv 2)) aj)) (ak (bg (i:=5) uT.nd rfl (Or.inl rfl) (aF cT (aE (iL T) (hr.mono (by decide)) (af (pv 5) (af (aF iF aj (az (pv 2))) ai))) (aU T.qX)))) aP)<|
   au (fc (pv 5) (eZ (br (pv 1) rfl) (az (pv 2)) set_list))<|ak (o6 (pv 1) aj o7),?_⟩
  try dsimp only[aad]
  have hl:=ok.len
  have hd:=so.reg
  have fi:=fz.mono hR.same
  have cl:=U.eV
  refine⟨_,rfl,L.a,_,L.dx,_,_,rfl,hR.ins,cl,U.eH,rfl,_,rfl,_,fi.ff,_,_,_,_,rfl,rfl,aJ.of hR.regs,ic (iP (by lia)),_,rfl,_,fi.dz,_,_,rfl,rfl,?_⟩
  unfold nN at k
  refine⟨_,rfl,_,rfl,_,rfl,_,fi.fG,H0,L,us,r,_,_,rfl,hR,?_⟩
  cases ew:ko r (r.regs.getD ins.src 0+ins.off) (ins.size:Int)with
  |none=>
   rw[ew]at k
   refine⟨_,rfl,rfl,_,rfl,?_⟩
   refine ao (fun _=>?_) (fun z=>absurd rfl z)
   refine⟨_,rfl,L.a,_,L.dx,_,rfl,hR.ins,cl,U.jS,(by show 7<1000;decide),?_⟩
   exact k _ ⟨L,us,rfl,hR.kj hR.apart r.place (some 1)⟩
  |some w=>
   rw[ew]at k
   have hw:=Jx ew
   have hM:=hR.mem w
   refine⟨_,rfl,rfl,_,rfl,?_⟩
   refine ao (fun z=>nomatch (aZ z)) (fun _=>?_)
   refine⟨_,rfl,gE L w,jv L w,_,rfl,hM.ins,rfl,_,rfl,_,rfl,_,fi.fG,gE L w,jv L w,memC L w,_,_,_,_,rfl,hM,JC ok w,⟨hw.1,by lia,by lia,hw.2⟩,?_⟩
   have fin:∀z:Int,(if ins.mode=128 then Builtin.bitAnd (bB (iz r w (r.regs.getD ins.src 0+ins.off) (ins.size:Int)) (8*(ins.size:Int))) 18446744073709551615 else iz r w (r.regs.getD ins.src 0+ins.off) (ins.size:Int))=z→
     eN (lJ (bh 5) (oW (ia K (bh 1) "registers") (eT K (bh 2) "dst") o9)) (sP K (bh 1) (tC (.int 1)) sQ "place") {nx:=fun _ H'=>Q .aK H',rt:=Q} [some bP,some (.ref L.a),some d9,some (.int (r.regs.getD ins.src 0+ins.off)),some (.ref (gE L w)),some (.int z)] H:=fun z ez=>by
    refine⟨_,rfl,_,rfl,L.a,_,L.dx,_,_,rfl,hR.ins,cl,U.eH,rfl,_,rfl,_,fi.bA,_,_,_,_,rfl,rfl,hR.regs,eX (by lia) (by rw[List.length_map];lia),?_⟩
    rw[←List.map_set,Int.toNat_natCast]
    have dJ:=hR.A8 (r.regs.set ins.dst z)
    refine⟨_,rfl,L.a,_,L.dx,_,_,rfl,dJ.ins,cl,U.ie,rfl,_,_,rfl,rfl,L.dx,_,dJ.ins,(by show 7<1000;decide),?_⟩
    subst ez
    exact k _ ⟨L,us,rfl,dJ.kj dJ.apart (r.place+1) r.ending⟩
   refine⟨_,rfl,_,fi.pC,_,_,rfl,rfl,_,rfl,?_⟩
   refine ao (fun h1=>?_) (fun h1=>?_)
   ·have g1:ins.mode=128:=by have:=aZ h1;lia
    refine⟨_,rfl,_,rfl,_,fi.fG,_,_,rfl,rfl,Or.inl ⟨by decide,by decide⟩,_,_,rfl,(by lia),_,_,rfl,rfl,?_⟩
    exact fin _ (aPos g1)
   ·have g1:¬ins.mode=128:=fun z=>h1 (bq (by lia))
    exact fin _ (aa g1)
theorem Bb (r:RS) (w:Bool) (a n z:Int):(gF r w a n z).regs=r.regs:=by
 cases w<;>rfl
def JD (K:W.Frag) (B:bE):Sp:=fun vs H Q _=>∃(H0:Hp) (L:RA) (us:List V) (r:RS) (d9:V) (ins:Insn) (w:Bool) (a:Int),vs=[.ref L.a,d9,.ref (gE L w),.int a]∧cj B H0 L us H r∧bf K H0 d9 ins∧mV r∧ins.src≤10∧(baseOf w≤a∧a+(ins.size:Int)≤baseOf w+((cellsOf r w).length:Int))∧
 ∀H',cj B H0 L us H' (ow r ins w a)→Q .aK H'
theorem D7:aI ["run","ins","memory","address","found","word"] ["run","ins","memory","address"] (aG (top 153)):=aM
theorem We (U:cF P w K mg A B):Callee P w K mg base 2 "exchange" ["run","ins","memory","address"] (JD K B):=by
 have T:=U.t
 refine aT T.zb D7 (fun _ _ _ _ _ _=>ln4 fun _ _ _ _=>by kernel_rfl) (fun _ _ _ _ h=>?_) (fun _ _ _ _ _ H vs Q E hr h=>?_)
 ·obtain⟨_,_,_,_,_,_,_,_,rfl,_⟩:=h
  rfl
 ·obtain⟨H0,L,us,r,d9,ins,w',a,rfl,hR,fz,ok,hs,hw,k⟩:=h
  have qz:=nU ins
  have hl:=ok.len
  have cl:=U.eV
  have fi:=fz.mono hR.same
  have hM:=hR.mem w'
  refine⟨_,au (bg (i:=4) D7.nd rfl (Or.inl rfl) (jj U.eG U.uo (Jp U) (hr.mono (by decide)) (pv 2) (af (pv 3) (af (az (pv 1)) ai))))<|
   au (bg (i:=5) D7.nd rfl (Or.inl rfl) (bX bR (br (pv 0) rfl) (az (pv 1)) (fun _ _=>rfl)))<|
   au (aN (aX (aO (az (pv 1)) (aU T.qY)))
    (au (aN (aX (aO (pv 4) (aF cT (bX bR (br (pv 0) rfl) aj (fun _ _=>rfl)) (aE (gi T) (hr.mono (by decide)) (af (aF iF aj (az (pv 1))) ai)))))
      (ak (jH (jj U.eG U.rA (DZ U) (hr.mono (by decide)) (pv 2) (af (pv 3) (af (az (pv 1)) (af (pv 5) ai)))))) aP)<|
     au (fc (pv 4) (eZ (br (pv 0) rfl) aj set_list))<|ak vJ) aP)<|
   au (jH (jj U.eG U.rA (DZ U) (hr.mono (by decide)) (pv 2) (af (pv 3) (af (az (pv 1)) (af (aE (Tf T) (hr.mono (by decide)) (af (aF cT (az (pv 1)) aj) (af (pv 4) (af (pv 5) ai)))) ai)))))<|
   ak (aN (bI (aF cT (az (pv 1)) aj) (fun _=>rfl)) (ak (fc (pv 4) (eZ (br (pv 0) rfl) (az (pv 1)) set_list))) aP),?_⟩
  try dsimp only[aad]
  refine⟨_,rfl,gE L w',jv L w',_,rfl,hM.ins,rfl,_,rfl,_,rfl,_,fi.fG,gE L w',jv L w',memC L w',_,_,_,_,rfl,hM,JC ok w',⟨hw.1,by lia,by lia,hw.2⟩,?_⟩
  refine⟨_,rfl,L.a,_,L.dx,_,_,rfl,hR.ins,cl,U.eH,rfl,_,rfl,_,fi.ff,_,_,_,_,rfl,rfl,aJ.of hR.regs,ic (iP (by lia)),?_⟩
  unfold ow at k
  have regs:∀(r1:RS) (H1:Hp) (j:Nat) (z:Int),cj B H0 L us H1 r1→r1.regs=r.regs→j≤10→∀(C:VK),(∀H',cj B H0 L us H' {r1 with regs:=r.regs.set j z}→C .aK H')→C .aK (upd H1 L.rl (.lst ((r1.regs.map V.int).set j (.int z)))):=fun r1 H1 j z h1 e _ C kk=>by
   rw[←List.map_set,e]
   exact kk _ (h1.A8 _)
  refine⟨_,rfl,_,fi.c9,_,_,rfl,rfl,_,rfl,?_⟩
  refine ao (fun h1=>?_) (fun h1=>?_)
  ·have g1:ins.imm=241:=aZ h1
   rw[aPos g1]at k
   refine⟨_,rfl,_,rfl,L.a,_,L.dx,_,_,rfl,hR.ins,cl,U.eH,rfl,_,_,_,_,rfl,rfl,aJ.of hR.regs,ic (j:=0) (iP (by lia)),_,rfl,_,fi.fG,_,_,rfl,rfl,Or.inl ⟨by decide,by decide⟩,_,rfl,(by lia),_,_,rfl,rfl,_,_,rfl,rfl,_,rfl,?_⟩
   refine ao (fun h2=>?_) (fun h2=>?_)
   ·rw[aPos (show iz r w' a (ins.size:Int)=_ from aZ h2)]at k
    refine⟨_,rfl,gE L w',jv L w',_,rfl,hM.ins,rfl,_,rfl,_,rfl,_,fi.fG,_,rfl,gE L w',jv L w',memC L w',_,_,_,_,_,rfl,hM,⟨hw.1,by lia,by lia,hw.2⟩,?_⟩
    have dJ:=hR.Ba w' (putN (cellsOf r w') (a-baseOf w').toNat (r.regs.getD ins.src 0) (ins.size:Int).toNat)
    refine⟨_,rfl,_,rfl,L.a,_,L.dx,_,_,rfl,dJ.ins,cl,U.eH,rfl,_,_,_,_,rfl,rfl,dJ.regs,eX (by decide) (by rw[List.length_map,show(A9 r w' _).regs=r.regs from Bb r w' a (ins.size:Int) (r.regs.getD ins.src 0)];lia),?_⟩
    exact regs _ _ 0 _ dJ (Bb r w' a (ins.size:Int) (r.regs.getD ins.src 0)) (by lia) Q k
   ·rw[aa (show ¬iz r w' a (ins.size:Int)=_ from fun z=>h2 (bq z))]at k
    refine⟨_,rfl,_,rfl,L.a,_,L.dx,_,_,rfl,hR.ins,cl,U.eH,rfl,_,_,_,_,rfl,rfl,hR.regs,eX (by decide) (by rw[List.length_map];lia),?_⟩
    exact regs _ _ 0 _ hR rfl (by lia) Q k
  ·have g1:¬ins.imm=241:=fun z=>h1 (bq z)
   rw[aa g1]at k
   refine⟨_,rfl,gE L w',jv L w',_,rfl,hM.ins,rfl,_,rfl,_,rfl,_,fi.fG,_,rfl,_,fi.c9,_,_,rfl,rfl,_,rfl,_,rfl,_,_,_,rfl,gE L w',jv L w',memC L w',_,_,_,_,_,rfl,hM,⟨hw.1,by lia,by lia,hw.2⟩,?_⟩
   have dJ:=hR.Ba w' (putN (cellsOf r w') (a-baseOf w').toNat (gx (Builtin.bitAnd ins.imm 240) (iz r w' a (ins.size:Int)) (r.regs.getD ins.src 0)) (ins.size:Int).toNat)
   have JE:=fz.mono dJ.same
   refine⟨_,rfl,_,JE.c9,_,_,rfl,rfl,_,rfl,?_⟩
   refine ao (fun h2=>?_) (fun h2=>?_)
   ·rw[aPos (by simpa using h2)]at k
    refine⟨_,rfl,_,rfl,L.a,_,L.dx,_,_,rfl,dJ.ins,cl,U.eH,rfl,_,rfl,_,JE.ff,_,_,_,_,rfl,rfl,dJ.regs,eX (by lia) (by rw[List.length_map,show(A9 r w' _).regs=r.regs from Bb r w' a (ins.size:Int) _];lia),?_⟩
    rw[Int.toNat_natCast]
    exact regs _ _ ins.src _ dJ (Bb r w' a (ins.size:Int) _) hs Q k
   ·rw[aa (fun z=>z (by simpa using h2))]at k
    exact k _ dJ
theorem uU (r:RS) (w:Bool) (a n z:Int):(gF r w a n z).place=r.place∧(gF r w a n z).ending=r.ending:=by
 cases w<;>exact⟨rfl,rfl⟩
theorem Wf (r:RS) (ins:Insn) (w:Bool) (a:Int):(ow r ins w a).place=r.place∧(ow r ins w a).ending=r.ending:=by
 unfold ow
 split
 ·split
  ·exact uU r w a _ _
  ·exact⟨rfl,rfl⟩
 ·split
  ·exact uU r w a _ _
  ·exact uU r w a _ _
def Wg (K:W.Frag) (B:bE):Sp:=rS K B (fun i=>i.cls=2∨i.cls=3) l8
theorem D8:aI ["program","run","ins","address","memory"] ["program","run","ins"] (aG (top 152)):=aM
theorem JF (U:cF P w K mg A B):Callee P w K mg base 4 "step_store" ["program","run","ins"] (Wg K B):=by
 have T:=U.t
 refine aT T.za D8 (fun _ _ _ _ _ _=>Z8 fun _ _ _=>by kernel_rfl) (fun _ _ _ _ h=>?_) (fun _ _ _ _ _ H vs Q E hr h=>?_)
 ·obtain⟨_,_,_,_,_,_,_,rfl,_⟩:=h
  rfl
 ·obtain⟨bP,p,iQ,r,d9,ins,H0,rfl,cZ,fz,⟨L,us,rfl,hR⟩,ok,so,hc,k⟩:=h
  have qz:=nU ins
  have hl:=ok.len
  have hd:=so.reg
  have fi:=fz.mono hR.same
  have cl:=U.eV
  refine⟨_,au (bg (i:=3) D8.nd rfl (Or.inl rfl) (aF bL (bX bR (br (pv 1) rfl) (az (pv 2)) (fun _ _=>rfl)) (az (pv 2))))<|
   au (bg (i:=4) D8.nd rfl (Or.inl rfl) (aE (Jy U) (hr.mono (by decide)) (af (pv 1) (af (pv 3) (af (az (pv 2)) ai)))))<|
   au (aN (gJ (bY iH (pv 4) dO (bz _)) (i8 (gq (bI (aE (nV T) (hr.mono (by decide)) (af (pv 2) ai)) (fun _=>rfl)) (gI (aX (gp (aF g9 (pv 3) (az (pv 2))) aj)))).pt)).pt
    (au (bQ (pv 1) (aU T.tS) rfl) (ak vJ)) aP)<|
   au (aN (bI (aE (nV T) (hr.mono (by decide)) (af (pv 2) ai)) (fun _=>rfl)) (ak (jH (aE (We U) (hr.mono (by decide)) (af (pv 1) (af (pv 2) (af (pv 4) (af (pv 3) ai)))))))
    (ak (jH (jj U.eG U.rA (DZ U) (hr.mono (by decide)) (pv 4) (af (pv 3) (af (az (pv 2)) (af (cN (aX (aO (az (pv 2)) aj)) (bX bR (br (pv 1) rfl) (az (pv 2)) (fun _ _=>rfl)) (az (pv 2))) ai)))))))<|
   ak (o6 (pv 1) aj o7),?_⟩
  try dsimp only[aad]
  refine⟨_,rfl,L.a,_,L.dx,_,_,rfl,hR.ins,cl,U.eH,rfl,_,rfl,_,fi.bA,_,_,_,_,rfl,rfl,aJ.of hR.regs,ic (iP (by lia)),_,rfl,_,fi.dz,_,_,rfl,rfl,?_⟩
  unfold l8 at k
  refine⟨_,rfl,_,rfl,_,rfl,_,fi.fG,H0,L,us,r,_,_,rfl,hR,?_⟩
  have JG:(∀H',ju B H0 (.ref L.a) H' {r with ending:=some 1}→Q .aK H')→∀σ:L2.St,σ[1]? =some (some (.ref L.a))→eN (sO K (bh 1) (tC (.int 1)) "ending") BY {nx:=fun _ H'=>Q .aK H',rt:=Q} σ H:=fun kk σ hσ=>by
   refine⟨_,hσ,L.a,_,L.dx,_,rfl,hR.ins,cl,U.jS,(by show 7<1000;decide),?_⟩
   exact kk _ ⟨L,us,rfl,hR.kj hR.apart r.place (some 1)⟩
  cases ew:ko r (r.regs.getD ins.dst 0+ins.off) (ins.size:Int)with
  |none=>
   rw[ew]at k
   refine⟨_,rfl,rfl,_,rfl,?_⟩
   refine ao (fun _=>?_) (fun z=>absurd rfl z)
   refine cA ?_
   exact JG k _ rfl
  |some w'=>
   rw[ew]at k
   have hw:=Jx ew
   have hM:=hR.mem w'
   have last:∀(r1:RS) (H1:Hp) (σ:L2.St),cj B H0 L us H1 r1→r1.place=r.place→σ[1]? =some (some (.ref L.a))→(∀H',ju B H0 (.ref L.a) H' {r1 with place:=r.place+1}→Q .aK H')→sP K (bh 1) (tC (.int 1)) sQ "place" {nx:=fun _ H'=>Q .aK H',rt:=Q} σ H1:=fun r1 H1 σ h1 e hσ kk=>by
    refine⟨_,hσ,L.a,_,L.dx,_,_,rfl,h1.ins,cl,U.ie,rfl,_,_,rfl,rfl,L.dx,_,h1.ins,(by show 7<1000;decide),?_⟩
    rw[e]
    exact kk _ ⟨L,us,rfl,h1.kj h1.apart (r.place+1) r1.ending⟩
   have store:(∀H',ju B H0 (.ref L.a) H' (if dH ins=true then{ow r ins w' (r.regs.getD ins.dst 0+ins.off)with place:=r.place+1}else{gF r w' (r.regs.getD ins.dst 0+ins.off) (ins.size:Int) (if ins.cls=3 then r.regs.getD ins.src 0 else ins.imm)with place:=r.place+1})→Q .aK H')→
     eN (nk (fun σ H Q=>fR (uB K) [] E0 (bW (bh 2) cK) σ H fun x H'=>∃k,jJ K x H' k∧Q k H') (qD (fR (JD K B) [] E0 (bW (bh 1) (bW (bh 2) (bW (bh 4) (bW (bh 3) cK))))))
      (qD (sU B.gv "put_number" (Jr K B) [] E0 (bh 4) (bW (bh 3) (bW (eT K (bh 2) "size") (bW (Fz (tB (vF (eT K (bh 2) "group") (tC (.int 3)))) (dX (qM K) (ia K (bh 1) "registers") (eT K (bh 2) "src")) (eT K (bh 2) "imm")) cK)))))) (sP K (bh 1) (tC (.int 1)) sQ "place")
      {nx:=fun _ H'=>Q .aK H',rt:=Q} [some bP,some (.ref L.a),some d9,some (.int (r.regs.getD ins.dst 0+ins.off)),some (.ref (gE L w'))] H:=fun kk=>by
    refine⟨_,rfl,_,_,rfl,fi,_,rfl,?_⟩
    refine ao (fun h1=>?_) (fun h1=>?_)
    ·rw[aPos h1]at kk
     refine⟨_,rfl,_,rfl,_,rfl,_,rfl,H0,L,us,r,_,_,w',_,rfl,hR,fz,ok,hd.2,hw,fun H1 h1=>?_⟩
     exact last _ _ _ h1 (Wf r ins w' _).1 rfl kk
    ·rw[aa h1]at kk
     refine⟨_,rfl,gE L w',jv L w',_,rfl,hM.ins,rfl,_,rfl,_,rfl,_,fi.fG,_,rfl,_,fi.gT,_,_,rfl,rfl,_,rfl,?_⟩
     refine ao (fun h2=>?_) (fun h2=>?_)
     ·rw[aPos (show ins.cls=3 by have:=aZ h2;lia)]at kk
      refine⟨_,rfl,L.a,_,L.dx,_,_,rfl,hR.ins,cl,U.eH,rfl,_,rfl,_,fi.ff,_,_,_,_,rfl,rfl,aJ.of hR.regs,ic (iP (by lia)),gE L w',jv L w',memC L w',_,_,_,_,_,rfl,hM,⟨hw.1,by lia,by lia,hw.2⟩,?_⟩
      exact last _ _ _ (hR.Ba w' _) (uU r w' _ _ _).1 rfl kk
     ·rw[aa (show ¬ins.cls=3 from fun z=>h2 (bq (by lia)))]at kk
      refine⟨_,rfl,_,fi.c9,gE L w',jv L w',memC L w',_,_,_,_,_,rfl,hM,⟨hw.1,by lia,by lia,hw.2⟩,?_⟩
      exact last _ _ _ (hR.Ba w' _) (uU r w' _ _ _).1 rfl kk
   refine⟨_,rfl,rfl,_,rfl,?_⟩
   refine ao (fun z=>nomatch (aZ z)) (fun _=>?_)
   refine⟨_,rfl,_,_,rfl,fi,_,rfl,?_⟩
   refine ao (fun h1=>?_) (fun h1=>?_)
   ·refine⟨_,rfl,_,rfl,_,fi.fG,_,_,rfl,rfl,(by show(0:Int)<_;lia),_,_,rfl,rfl,_,rfl,?_⟩
    refine ao (fun h2=>?_) (fun h2=>?_)
    ·dsimp only at k
     rw[aPos ⟨h1,by simpa using h2⟩]at k
     exact JG k _ rfl
    ·dsimp only at k
     rw[aa (fun z=>z.2 (by simpa using h2))]at k
     exact store k
   ·refine dw ?_
    dsimp only at k
    rw[aa (fun z=>h1 z.1)]at k
    exact store k
section
variable {H0 H:Hp} {L:RA} {us:List V} {r:RS}
theorem cj.Wh {z:Addr} {row:List Int} (h:cj B H0 L us H r) (hz:H z=some (.lst (row.map V.int))) (n1:z≠L.rl) (n2:z≠L.dc) (n3:z≠L.sc) (n4:z≠L.al):
  cj B H0 L (us++[.ref z]) (upd H L.al (.lst (us++[.ref z]))) {r with asked:=r.asked++[row]}:=by
 have k:∀b o,H b=some o→b≠L.al→(upd H L.al (.lst (us++[.ref z]))) b=some o:=fun b o e n=>by rw[aL n];exact e
 have q:=h.ne
 refine⟨ah.mT h.same h.fr.2.2.2.2,k _ _ h.ins (bF h.ins h.ask (fun w=>by cases w)),k _ _ h.regs q.2.2.1,⟨k _ _ h.dat.ins (bF h.dat.ins h.ask (fun w=>by cases w)),k _ _ h.dat.cells q.2.2.2.2.1⟩,⟨k _ _ h.stk.ins (bF h.stk.ins h.ask (fun w=>by cases w)),k _ _ h.stk.cells q.2.2.2.2.2⟩,h.kg,aH,
  A2 (Paired.ck h.rows fun _ _ ⟨y,e,x,n⟩=>⟨y,e,k _ _ x n.2.2.2,n⟩) ⟨z,rfl,k _ _ hz n4,n1,n2,n3,n4⟩,h.fr,h.ne⟩
theorem cj.Wi {z:Addr} {g:List Int} {pl:Int} (h:cj B H0 L us H r) (hz:H z=some (.lst (g.map V.int))) (n0:H0 z=none) (n2:z≠L.dc) (n3:z≠L.sc) (n4:z≠L.al) (qe:∀u∈us,u≠ .ref z):
  cj B H0 {L with rl:=z} us (upd H L.a (.ins B.cy L.dx (oq z L.dm L.sm L.hl L.al pl r.ending))) {r with regs:=g,place:=pl}:=by
 have k:∀b o,H b=some o→b≠L.a→(upd H L.a (.ins B.cy L.dx (oq z L.dm L.sm L.hl L.al pl r.ending))) b=some o:=fun b o e n=>by rw[aL n];exact e
 have ap:=h.apart
 refine⟨fun b o e=>k _ _ (h.same _ _ e) (aY e h.fr.1),aH,k _ _ hz (kh h.ins hz),⟨k _ _ h.dat.ins ap.1,k _ _ h.dat.cells (kh h.ins h.dat.cells)⟩,⟨k _ _ h.stk.ins ap.2,k _ _ h.stk.cells (kh h.ins h.stk.cells)⟩,h.kg,k _ _ h.ask (kh h.ins h.ask),
  DT h.rows fun u hu _ ⟨y,e,x,n⟩=>⟨y,e,k _ _ x (kh h.ins x),fun w=>qe u hu (by rw[e];exact congrArg V.ref w),n.2⟩,⟨h.fr.1,n0,h.fr.2.2⟩,n2,n3,n4,h.ne.2.2.2⟩
end
theorem D9 (g:List Int) (i j:Nat) (h:j≤g.length) (hij:i≤j):jK (g.map V.int) (some (i:Int)) (some (j:Int))=((g.drop i).take (j-i)).map V.int:=by
 unfold jK
 rw[HT.sV,HT.sV,List.length_map,Nat.min_eq_left (show i≤g.length by lia),Nat.min_eq_left h,List.map_take,List.map_drop]
theorem Wj (g:List Int) (i:Nat) (h:i≤g.length):jK (g.map V.int) (some (i:Int)) none=(g.drop i).map V.int:=by
 unfold jK
 rw[HT.sV,HT.MZ,List.length_map,Nat.min_eq_left h,List.map_drop,List.take_of_length_le (by rw[List.length_drop,List.length_map];lia)]
def Wk (K:W.Frag) (B:bE):Sp:=fun vs H Q _=>∃(iQ:V) (r:RS) (d9:V) (ins:Insn) (H0:Hp),vs=[iQ,d9]∧bf K H0 d9 ins∧ju B H0 iQ H r∧mV r∧(r.asked.length≤4000∧r.bw.length%2=0)∧∀H',ju B H0 iQ H' (uV r ins)→Q .aK H'
theorem Ea:aI ["run","ins","start","answer"] ["run","ins"] (aG (top 158)):=aM
theorem Wl (U:cF P w K mg A B):Callee P w K mg base 1 "ask_helper" ["run","ins"] (Wk K B):=by
 have T:=U.t
 refine aT T.zg Ea (fun _ _ _ _ _ _=>ln2 fun _ _=>by kernel_rfl) (fun _ _ _ _ h=>?_) (fun _ _ _ _ _ H vs Q E _ h=>?_)
 ·obtain⟨_,_,_,_,_,rfl,_⟩:=h
  rfl
 ·obtain⟨iQ,r,d9,ins,H0,rfl,fz,⟨L,us,rfl,hR⟩,ok,⟨ha,hh⟩,k⟩:=h
  have hl:=ok.len
  have cl:=U.eV
  have qc:us.length=r.asked.length:=Paired.len hR.rows
  refine⟨_,au (bg (i:=2) Ea.nd rfl (Or.inl rfl) (aF iF aj (bZ eO (by rfl) T.d8 boot_len (af (br (pv 0) rfl) ai))))<|
   au (bg (i:=3) Ea.nd rfl (Or.inl rfl) (cN (bY iG (pv 2) (bZ eO (by rfl) T.d8 boot_len (af (br (pv 0) rfl) ai)) (bz _)) (sW sY (br (pv 0) rfl) (lP (pv 2)) (lP (aF bL (pv 2) aj))) (bO (af aj (af aj ai)))))<|
   au (jH (tw PySem.F.plainAttrs_list PySem.F.slot_list_append PySem.F.type_list_append Co (br (pv 0) rfl) (af (aF qP (aF qP (bO (af (aF cT (az (pv 1)) aj) ai)) (sW sY (br (pv 0) rfl) (lP aj) (lP aj))) (bO (af (bX bR (br (pv 0) rfl) aj (fun _ _=>rfl)) ai))) ai)))<|
   au (aN (aX (gp (bX bR (pv 3) aj (fun _ _=>rfl)) aj)) (au (bQ (pv 0) (aU T.zA) rfl) (ak vJ)) aP)<|
   au (bQ (pv 0) (aF qP (bO (af (bX bR (pv 3) aj (fun _ _=>rfl)) (af aj (af aj (af aj (af aj (af aj ai))))))) (sW sY (br (pv 0) rfl) (lP aj) M0)) rfl)<|
   ak (o6 (pv 0) aj o7),?_⟩
  try dsimp only[aad]
  refine⟨_,rfl,L.a,_,L.dx,_,_,rfl,hR.ins,cl,U.nQ,rfl,_,_,rfl,Or.inl (aJ.of hR.ask),_,_,rfl,rfl,Or.inl ⟨by decide,by decide⟩,?_⟩
  rw[qc]
  have rest:∀(an:Addr) (H1:Hp),ah H H1→H1 an=some (.lst [.int (fB r.bw r.asked.length).1,.int (fB r.bw r.asked.length).2])→an≠L.al→an≠L.a→
    eN (qD (wg K "list" Cn (ia K (bh 0) "asked") (bW (dX qO (dX qO (sR (bW (dX (fE fun i j=> .int (Builtin.bitAnd i j)) (eT K (bh 1) "imm") (tC (.int 4294967295))) cK)) (Cf (wc K) (ia K (bh 0) "registers") (vZ (tC (.int 1))) (vZ (tC (.int 6))))) (sR (bW (dX (qM K) (ia K (bh 0) "registers") (tC (.int 0))) cK))) cK)))
    (eN (nk (tB (Fv (dX (qM K) (bh 3) (tC (.int 1))) (tC (.int 0)))) (eN (sO K (bh 0) (tC (.int 3)) "ending") BY) qC)
    (eN (sO K (bh 0) (dX qO (sR (bW (dX (qM K) (bh 3) (tC (.int 0))) (bW (tC (.int 0)) (bW (tC (.int 0)) (bW (tC (.int 0)) (bW (tC (.int 0)) (bW (tC (.int 0)) cK))))))) (Cf (wc K) (ia K (bh 0) "registers") (vZ (tC (.int 6))) Gf)) "registers")
    (sP K (bh 0) (tC (.int 1)) sQ "place"))) {nx:=fun _ H'=>Q .aK H',rt:=Q} [some (.ref L.a),some d9,some (.int (2*(r.asked.length:Int))),some (.ref an)] H1:=by
   intro an H1 s1 han Wm na
   have h1:=hR.mono s1
   have fi:=fz.mono h1.same
   refine⟨_,rfl,L.a,_,L.dx,_,_,rfl,h1.ins,cl,U.nQ,rfl,.inl ⟨rfl,_,aJ.of h1.ask⟩,_,rfl,_,fi.c9,_,_,rfl,rfl,cB,fun q1 hq1=>?_⟩
   have s2:=ah.new (o:= .lst [.int (Builtin.bitAnd ins.imm 4294967295)]) hq1
   have h2:=h1.mono s2
   have e1:(upd H1 q1 (.lst [.int (Builtin.bitAnd ins.imm 4294967295)])) q1=_:=aH
   have JH:=s2 _ _ han
   show ia K (bh 0) "registers" _ (upd H1 q1 (.lst [.int (Builtin.bitAnd ins.imm 4294967295)])) _
   generalize upd H1 q1 (.lst [.int (Builtin.bitAnd ins.imm 4294967295)])=H2 at h2 e1 JH ⊢
   refine⟨_,rfl,L.a,_,L.dx,_,_,rfl,h2.ins,cl,U.eH,rfl,_,rfl,_,rfl,L.rl,_,rfl,aJ.of h2.regs,fun q2 hq2=>?_⟩
   rw[show(1:Int)=((1:Nat):Int)from rfl,show(6:Int)=((6:Nat):Int)from rfl,D9 _ 1 6 (by lia) (by lia)]
   have s3:=ah.new (o:= .lst (((r.regs.drop 1).take (6-1)).map V.int)) hq2
   have h3:=h2.mono s3
   refine⟨q1,q2,_,_,rfl,rfl,s3 _ _ e1,aH,?_,fun q3 Eb=>?_⟩
   ·rw[List.length_map,List.length_take,List.length_drop]
    exact Nat.le_trans (show 1+min (6-1) (r.regs.length-1)≤12 by lia) (by decide)
   have s4:=ah.new (o:= .lst ([.int (Builtin.bitAnd ins.imm 4294967295)]++((r.regs.drop 1).take (6-1)).map V.int)) Eb
   have h4:=h3.mono s4
   refine⟨_,rfl,L.a,_,L.dx,_,_,rfl,h4.ins,cl,U.eH,rfl,_,_,_,_,rfl,rfl,aJ.of h4.regs,ic (j:=0) (iP (by lia)),cB,fun q4 rM=>?_⟩
   have s5:=ah.new (o:= .lst [.int (r.regs.getD 0 0)]) rM
   have h5:=h4.mono s5
   refine⟨q3,q4,_,_,rfl,rfl,s5 _ _ aH,aH,?_,fun z hz=>?_⟩
   ·rw[List.length_append,List.length_map,List.length_take,List.length_drop]
    exact Nat.le_trans (show 1+min (6-1) (r.regs.length-1)+1≤12 by lia) (by decide)
   have s6:=ah.new (o:= .lst ([.int (Builtin.bitAnd ins.imm 4294967295)]++((r.regs.drop 1).take (6-1)).map V.int++[.int (r.regs.getD 0 0)])) hz
   have qe:[V.int (Builtin.bitAnd ins.imm 4294967295)]++((r.regs.drop 1).take (6-1)).map V.int++[.int (r.regs.getD 0 0)]=(rowOf r ins).map V.int:=by
    unfold rowOf
    rw[List.map_append,List.map_append]
    rfl
   have h6:=h5.mono s6
   have Wn:=s6 _ _ (s5 _ _ (s4 _ _ (s3 _ _ JH)))
   have z1:z≠L.rl:=Ne.symm (aY h5.regs hz)
   have z2:z≠L.dc:=Ne.symm (aY h5.dat.cells hz)
   have z3:z≠L.sc:=Ne.symm (aY h5.stk.cells hz)
   have z4:z≠L.al:=Ne.symm (aY h5.ask hz)
   refine⟨L.al,us,.ref z,rfl,rfl,h6.ask,?_,?_⟩
   ·rw[qc]
    exact Nat.lt_of_le_of_lt ha (by decide)
   have h7:=h6.Wh (row:=rowOf r ins) (z:=z) (by rw[←qe];exact aH) z1 z2 z3 z4
   have Ec:(upd (upd (upd (upd (upd H2 q2 (.lst (((r.regs.drop 1).take (6-1)).map V.int))) q3 (.lst ([.int (Builtin.bitAnd ins.imm 4294967295)]++((r.regs.drop 1).take (6-1)).map V.int))) q4 (.lst [.int (r.regs.getD 0 0)])) z (.lst ([.int (Builtin.bitAnd ins.imm 4294967295)]++((r.regs.drop 1).take (6-1)).map V.int++[.int (r.regs.getD 0 0)]))) L.al (.lst (us++[.ref z]))) an=some (HO.lst [V.int (fB r.bw r.asked.length).1,V.int (fB r.bw r.asked.length).2]):=by
    rw[aL Wm];exact Wn
   show eN _ _ _ _ (upd _ L.al (.lst (us++[.ref z])))
   generalize (upd (upd (upd (upd (upd H2 q2 (.lst (((r.regs.drop 1).take (6-1)).map V.int))) q3 (.lst ([.int (Builtin.bitAnd ins.imm 4294967295)]++((r.regs.drop 1).take (6-1)).map V.int))) q4 (.lst [.int (r.regs.getD 0 0)])) z (.lst ([.int (Builtin.bitAnd ins.imm 4294967295)]++((r.regs.drop 1).take (6-1)).map V.int++[.int (r.regs.getD 0 0)]))) L.al (.lst (us++[.ref z])))=G at h7 Ec ⊢
   refine⟨_,rfl,_,_,_,_,rfl,rfl,aJ.of Ec,rfl,_,_,rfl,rfl,_,rfl,?_⟩
   unfold uV at k
   refine ao (fun c1=>?_) (fun c1=>?_)
   ·rw[aPos (by simpa using c1)]at k
    refine⟨_,rfl,L.a,_,L.dx,_,rfl,h7.ins,cl,U.jS,(by show 7<1000;decide),?_⟩
    exact k _ ⟨L,_,rfl,h7.kj h7.apart r.place (some 3)⟩
   ·rw[aa (fun w=>w (by simpa using c1))]at k
    refine⟨_,rfl,_,_,_,_,rfl,rfl,aJ.of Ec,rfl,(by show 6≤sizeLine;decide),fun q8 Wo=>?_⟩
    have s8:=ah.new (o:= .lst [.int (fB r.bw r.asked.length).1,.int 0,.int 0,.int 0,.int 0,.int 0]) Wo
    have h8:=h7.mono s8
    refine⟨_,rfl,L.a,_,L.dx,_,_,rfl,h8.ins,cl,U.eH,rfl,_,rfl,L.rl,_,rfl,aJ.of h8.regs,fun q9 Wq=>?_⟩
    rw[Wj _ 6 (by show 6≤r.regs.length;lia)]
    have s9:=ah.new (o:= .lst ((r.regs.drop 6).map V.int)) Wq
    have h9:=h8.mono s9
    refine⟨q8,q9,_,_,rfl,rfl,s9 _ _ aH,aH,?_,fun y hy=>?_⟩
    ·rw[List.length_map,List.length_drop]
     exact Nat.le_trans (show 6+(r.regs.length-6)≤12 by lia) (by decide)
    have wo:=ah.new (o:= .lst ([.int (fB r.bw r.asked.length).1,.int 0,.int 0,.int 0,.int 0,.int 0]++(r.regs.drop 6).map V.int)) hy
    have gw:=h9.mono wo
    refine⟨_,rfl,L.a,_,L.dx,_,rfl,gw.ins,cl,U.eH,(by show 7<1000;decide),?_⟩
    refine⟨_,rfl,L.a,_,L.dx,_,_,rfl,aH,cl,U.ie,rfl,_,_,rfl,rfl,L.dx,_,aH,(by show 7<1000;decide),?_⟩
    rw[dj]
    refine k _ ⟨{L with rl:=y},_,rfl,gw.Wi (g:=[(fB r.bw r.asked.length).1,0,0,0,0,0]++r.regs.drop 6) (pl:=r.place+1) (z:=y) (by rw[List.map_append];exact aH) (ah.free h9.same hy) (Ne.symm (aY h9.dat.cells hy)) (Ne.symm (aY h9.stk.cells hy)) (Ne.symm (aY h9.ask hy)) ?_⟩
    intro u hu e
    subst e
    obtain⟨i,hi⟩:=List.getElem?_of_mem hu
    have hlt:i<(r.asked++[rowOf r ins]).length:=by rw[←Paired.len h9.rows];exact(List.getElem?_eq_some_iff.mp hi).1
    obtain⟨x,hx,w0,ew,q,_⟩:=Paired.at h9.rows (List.getElem?_eq_getElem hlt)
    have e2:=Option.some.inj (hi.symm.trans hx)
    subst e2
    cases ew
    rw[hy]at q
    cases q
  refine⟨_,rfl,_,rfl,L.a,_,L.dx,_,_,rfl,hR.ins,cl,U.uq,rfl,_,_,rfl,Or.inl (aJ.of (hR.same _ _ hR.kg)),_,_,rfl,rfl,_,rfl,?_⟩
  rw[List.length_map]
  have Bc:∀q,H q=none→q≠L.al∧q≠L.a:=fun q hq=>⟨Ne.symm (aY hR.ask hq),Ne.symm (aY hR.ins hq)⟩
  refine ao (fun h1=>?_) (fun h1=>?_)
  ·have g1:2*r.asked.length<r.bw.length:=by have:=aZ h1;lia
   refine⟨_,rfl,L.a,_,L.dx,_,_,rfl,hR.ins,cl,U.uq,rfl,_,rfl,_,rfl,_,rfl,_,_,rfl,rfl,_,rfl,L.hl,_,rfl,aJ.of (hR.same _ _ hR.kg),fun q hq=>?_⟩
   have ec:jK (r.bw.map V.int) (some (2*(r.asked.length:Int))) (some (2*(r.asked.length:Int)+2))=[.int (fB r.bw r.asked.length).1,.int (fB r.bw r.asked.length).2]:=by
    rw[show(2:Int)*(r.asked.length:Int)=((2*r.asked.length:Nat):Int) by lia,show((2*r.asked.length:Nat):Int)+2=((2*r.asked.length+2:Nat):Int) by lia,D9 _ _ _ (by lia) (by lia)]
    unfold fB
    rw[aPos g1]
    have e1:(r.bw.drop (2*r.asked.length)).take (2*r.asked.length+2-2*r.asked.length)=[r.bw.getD (2*r.asked.length) 0,r.bw.getD (2*r.asked.length+1) 0]:=by
     rw[show 2*r.asked.length+2-2*r.asked.length=2 by lia,List.drop_eq_getElem_cons g1,List.drop_eq_getElem_cons (show 2*r.asked.length+1<r.bw.length by lia)]
     rw[List.getD_eq_getElem?_getD,List.getElem?_eq_getElem g1,List.getD_eq_getElem?_getD,List.getElem?_eq_getElem (show 2*r.asked.length+1<r.bw.length by lia)]
     rfl
    rw[e1]
    rfl
   exact rest q _ (ah.new hq) (by rw[aH];exact congrArg (fun x=>some (HO.lst x)) ec) (Bc q hq).1 (Bc q hq).2
  ·have g1:¬2*r.asked.length<r.bw.length:=fun z=>h1 (bq (by lia))
   refine⟨iw,fun q hq=>?_⟩
   refine rest q _ (ah.new hq) (by rw[aH];unfold fB;rw[aa g1]) (Bc q hq).1 (Bc q hq).2
def Wr (K:W.Frag) (B:bE):Sp:=rS K B (fun i=>i.cls=5∨i.cls=6) jR
theorem Ws:aI ["program","run","ins"] ["program","run","ins"] (aG (top 157)):=aM
theorem JJ (U:cF P w K mg A B):Callee P w K mg base 4 "step_branch" ["program","run","ins"] (Wr K B):=by
 have T:=U.t
 refine aT T.zf Ws (fun _ _ _ _ _ _=>Z8 fun _ _ _=>by kernel_rfl) (fun _ _ _ _ h=>?_) (fun _ _ _ _ _ H vs Q E hr h=>?_)
 ·obtain⟨_,_,_,_,_,_,_,rfl,_⟩:=h
  rfl
 ·obtain⟨bP,p,iQ,r,d9,ins,H0,rfl,cZ,fz,⟨L,us,rfl,hR⟩,ok,so,hc,k⟩:=h
  have hl:=ok.len
  have hd:=so.reg
  have fi:=fz.mono hR.same
  have cl:=U.eV
  refine⟨_,ak (aN (aX (aO (az (pv 2)) (aU T.nJ))) (ak (bQ (pv 1) (aU T.tR) rfl))
   (ak (aN (aX (aO (az (pv 2)) (aU T.pG))) (ak (jH (aE (Wl U) (hr.mono (by decide)) (af (pv 1) (af (pv 2) ai)))))
    (ak (aN (gJ (aX (aO (az (pv 2)) aj)) (i8 (bI (aE (Tn T) (hr.mono (by decide)) (af (pv 2) (af (bX bR (br (pv 1) rfl) (az (pv 2)) (fun _ _=>rfl)) (af (aE (Jz U) (hr.mono (by decide)) (af (pv 1) (af (pv 2) ai))) ai)))) (fun _=>rfl)))).pt
     (ak (bQ (pv 1) (aE (rG T) (hr.mono (by decide)) (af (pv 2) (af (br (pv 1) rfl) ai))) rfl)) (ak (o6 (pv 1) aj o7))))))),?_⟩
  try dsimp only[aad]
  unfold jR at k
  refine⟨_,rfl,_,fi.eF,_,_,rfl,rfl,_,rfl,?_⟩
  refine ao (fun h1=>?_) (fun h1=>?_)
  ·rw[aPos (by have:=aZ h1;lia)]at k
   refine⟨_,rfl,L.a,_,L.dx,_,rfl,hR.ins,cl,U.jS,(by show 7<1000;decide),?_⟩
   exact k _ ⟨L,us,rfl,hR.kj hR.apart r.place (some 0)⟩
  ·rw[aa (fun z=>h1 (bq (by lia)))]at k
   refine⟨_,rfl,_,fi.eF,_,_,rfl,rfl,_,rfl,?_⟩
   refine ao (fun h2=>?_) (fun h2=>?_)
   ·rw[aPos (by have:=aZ h2;lia)]at k
    exact⟨_,rfl,_,rfl,_,r,_,ins,H0,rfl,fz,⟨L,us,rfl,hR⟩,ok,so.ask,k⟩
   ·rw[aa (fun z=>h2 (bq (by lia)))]at k
    have jump:(ins.op=0∨gW ins (r.regs.getD ins.dst 0) (kr r ins)=true)→sO K (bh 1) (fR (Ip K) [] E0 (bW (bh 2) (bW (ia K (bh 1) "place") cK))) "place" {nx:=fun _ H'=>Q .aK H',rt:=Q} [some bP,some (.ref L.a),some d9] H:=fun z=>by
     rw[aPos z]at k
     refine⟨_,rfl,_,rfl,L.a,_,L.dx,_,_,rfl,hR.ins,cl,U.ie,rfl,_,_,_,rfl,fi,_,rfl,L.a,_,L.dx,_,rfl,hR.ins,cl,U.ie,(by show 7<1000;decide),?_⟩
     exact k _ ⟨L,us,rfl,hR.kj hR.apart (fj ins r.place) r.ending⟩
    refine⟨_,rfl,_,fi.b9,_,_,rfl,rfl,_,rfl,?_⟩
    refine ao (fun h3=>?_) (fun h3=>?_)
    ·refine cA ?_
     exact jump (Or.inl (by have:=aZ h3;lia))
    ·refine⟨_,rfl,_,rfl,L.a,_,L.dx,_,_,rfl,hR.ins,cl,U.eH,rfl,_,rfl,_,fi.bA,_,_,_,_,rfl,rfl,aJ.of hR.regs,ic (iP (by lia)),_,rfl,_,rfl,H0,L,us,r,_,_,rfl,hR,fi,ok,hd.2,_,_,_,_,rfl,fi,_,rfl,?_⟩
     refine ao (fun h4=>?_) (fun h4=>?_)
     ·exact jump (Or.inr h4)
     ·rw[aa (fun z=>z.elim (fun y=>h3 (bq (by lia))) h4)]at k
      refine⟨_,rfl,L.a,_,L.dx,_,_,rfl,hR.ins,cl,U.ie,rfl,_,_,rfl,rfl,L.dx,_,hR.ins,(by show 7<1000;decide),?_⟩
      exact k _ ⟨L,us,rfl,hR.kj hR.apart (r.place+1) r.ending⟩
def Wt (K:W.Frag) (ta tb:TE):TE:=fun σ H Q=>ta σ H fun x H1=>∃p G,dg K G x p∧ah G H1∧tb σ H1 fun y H2=>ah H1 H2∧∃i j,y= .int i∧0≤i∧p[i.toNat]? =some j∧∀u,bf K G u j→Q u H2
theorem Wu {X:Cx} {a b:Expr} {ta tb:TE} {pos p2:Pos} (ha:PE X a ta) (hb:PE X b tb) (hbase:attributeBase a "instructions" X.env (eval a X.env)=eval a X.env:=by kernel_rfl) (hs:sX b:=by exact fun _ _=>rfl):PE X (.Subscript (.Attribute a "instructions" p2) b pos) (Wt X.K ta tb):=by
 intro pins s σ H Q I h
 refine Subscript_ (qK hbase (aV (ha pins s σ H _ I h) fun u s1 zq0=>?_))
 obtain⟨x,H1,I1,rx,p,G,⟨⟨a',C,dx,fs,il,bl,vs,e,h1,h2,h3,h4,h5,h6,h7,h8,h9⟩,hl⟩,sg,q1⟩:=zq0
 subst e
 obtain rfl:u=Value.ref a':=rx
 refine o5 I1 (sg _ _ h1) h2 h3 h5 fun u' s2 I2 ru=>?_
 refine aV (hb pins s2 σ H1 _ I2 q1) fun iv s3 zq0=>?_
 obtain⟨y,H2,I3,ry,sm,i,j,ey,hi,hj,q⟩:=zq0
 obtain⟨w',e1,e2⟩:=Paired.at h8 hj
 exact bR _ b pins s3 σ H2 (.ref il) y u' iv Q I3 ru ry ⟨il,vs,i,w',rfl,ey,aJ.of (sm _ _ (sg _ _ h7)),jf hi e1,q _ e2⟩ (hs _ _)
def iA (g:Nat) (p:List Insn) (r:RS) (ins:Insn):RS:=if g=0 then pM p r ins else if g=1 then nN p r ins else if g=2∨g=3 then l8 p r ins else if g=4∨g=7 then uS p r ins else jR p r ins
theorem spw {C D:Insn→Prop} {m:List Insn→RS→Insn→RS} (k:∀i,C i→D i) (vs:List V) (H:Hp) (Q:VK) (E:XK) (x:rS K B C m vs H Q E):rS K B D m vs H Q E:=by
 obtain⟨a,b,c,d,e,f,g,h1,h2,h3,h4,h5,h6,h7,q⟩:=x
 exact⟨a,b,c,d,e,f,g,h1,h2,h3,h4,h5,h6,k _ h7,q⟩
theorem Wv (U:cF P w K mg A B) (g:Nat) (h:g<8):∃f,(CQ A)[g]? =some (.ref f)∧pY P w K mg base 6 f ["program","run","ins"] (rS K B (fun i=>i.cls=g) (iA g)):=by
 have T:=U.t
 match g,h with
 |0,_=>exact⟨_,rfl,bS (V8 U) T.pM (by decide) (spw fun _ h=>h)⟩
 |1,_=>exact⟨_,rfl,bS (Wd U) T.nN (by decide) (spw fun _ h=>h)⟩
 |2,_=>exact⟨_,rfl,bS (JF U) T.l8 (by decide) (spw fun _ h=> .inl h)⟩
 |3,_=>exact⟨_,rfl,bS (JF U) T.l8 (by decide) (spw fun _ h=> .inr h)⟩
 |4,_=>exact⟨_,rfl,bS (JB U) T.HU (by decide) (spw fun _ h=> .inr h)⟩
 |5,_=>exact⟨_,rfl,bS (JJ U) T.jR (by decide) (spw fun _ h=> .inl h)⟩
 |6,_=>exact⟨_,rfl,bS (JJ U) T.jR (by decide) (spw fun _ h=> .inr h)⟩
 |7,_=>exact⟨_,rfl,bS (JB U) T.HU (by decide) (spw fun _ h=> .inl h)⟩
theorem Ed {p:List Insn} {r:RS} (n:Nat) (h:r.ending≠none):ef p n r=r:=by
 cases n with
 |zero=>exact aa h
 |succ n=>exact aa h
def Ww (K:W.Frag) (B:bE):Sp:=fun vs H Q _=>∃(bP:V) (p:List Insn) (most:Nat) (dl hl:Addr) (data bw:List Int) (I:Nat→RS→Prop),vs=[bP,.int (most:Int),.ref dl,.ref hl]∧dg K H bP p∧H dl=some (.lst (data.map V.int))∧H hl=some (.lst (bw.map V.int))∧
 (most≤2000∧data.length≤256)∧Bd p I∧I 0 (dW data bw)∧∀v H',ju B H v H' (ef p most (dW data bw))→Q v H'
theorem uW:aI ["program","most","data","helpers","run","begun","ins"] ["program","most","data","helpers"] (aG (top 160)):=aM
theorem Wx (U:cF P w K mg A B):Callee P w K mg base 7 "finished_run" ["program","most","data","helpers"] (Ww K B):=by
 have T:=U.t
 refine aT T.zh uW (fun _ _ _ _ _ _=>ln4 fun _ _ _ _=>by kernel_rfl) (fun _ _ _ _ h=>?_) (fun _ _ _ _ _ H vs Q E hr h=>?_)
 ·obtain⟨_,_,_,_,_,_,_,_,rfl,_⟩:=h
  rfl
 ·obtain⟨bP,p,most,dl,hl,data,bw,I,rfl,cZ,hdl,rR,⟨hm,hdn⟩,hI,hI0,k⟩:=h
  refine⟨_,au (bg (i:=4) uW.nd rfl (Or.inl rfl) (pN U.Ah (VW U) (hr.mono (by decide)) U.OI (af (pv 2) (af (pv 3) ai))))<|
   au (bg (i:=5) uW.nd rfl (Or.inl rfl) aj)<|
   au (FI PassesOwn.never (bY iH (br (pv 4) rfl) dO (bz _)) (ak (aN (aX (aO (pv 5) (pv 1))) (ak (bQ (pv 4) (aU T.zz) rfl))
    (au (bg (i:=6) uW.nd rfl (Or.inl rfl) (Wu (pv 0) (br (pv 4) rfl)))<|
     au (jH (wA (k:=6) (hr.mono (by decide)) (bX Cj (cY T.Ow) (az (pv 6)) (fun _ _=>rfl)) (af (pv 0) (af (pv 4) (af (pv 6) ai)))))<|
     ak (vO (i:=5) uW.nd rfl (Or.inl rfl) aj FH)))))<|
   ak (ay (pv 4)),?_⟩
  try dsimp only[aad]
  have cl:=U.eV
  refine⟨_,rfl,_,rfl,fun a dx ha hdx hne=>?_⟩
  have s0:ah H (upd (upd H dx (.own a)) a (.ins B.cy dx [])):=fun b o e=>by rw[aL (aY e ha),aL (aY e hdx)];exact e
  refine⟨a,dx,dl,hl,data,bw,H,rfl,aH,s0 _ _ hdl,rR,s0,ha,hdn,fun H1 Wy=>⟨rfl,?_⟩⟩
  refine⟨fun m σ H'=>∃(i:Nat) (r:RS) (v6:Option V),σ=[some bP,some (.int (most:Int)),some (.ref dl),some (.ref hl),some (.ref a),some (.int (i:Int)),v6]∧ju B H (.ref a) H' r∧i≤most∧ef p (most-i) r=ef p most (dW data bw)∧(r.ending=none→I i r)∧m=2*(most-i)+(if r.ending=none then 1 else 0),
   ⟨_,0,dW data bw,none,rfl,Wy,by lia,rfl,fun _=>hI0,rfl⟩,?_⟩
  rintro m σ H' ⟨i,r,v6,rfl,⟨L,us,ea,hR⟩,Wz,eL,JK,rfl⟩
  cases ea
  refine⟨_,rfl,L.a,_,L.dx,_,_,rfl,hR.ins,cl,U.jS,rfl,rfl,_,rfl,?_⟩
  cases en:r.ending with
  |some z=>
   refine(show(if decide (D0 (some z)=V.aK)=true then _ else _)from ?_)
   refine ao (fun y=>nomatch (aZ y)) (fun _=>?_)
   rw[Ed _ (by rw[en];simp)]at eL
   refine⟨_,rfl,k _ _ ?_⟩
   rw[←eL]
   exact⟨L,us,rfl,hR⟩
  |none=>
   refine(show(if decide (D0 none=V.aK)=true then _ else _)from ?_)
   refine ao (fun _=>?_) (fun y=>absurd rfl y)
   obtain⟨ok,so⟩:=hI.ok i r (JK en) en
   refine⟨fun σ' H2=>∃m',m'<2*(most-i)+1∧∃(i:Nat) (r:RS) (v6:Option V),σ'=[some bP,some (.int (most:Int)),some (.ref dl),some (.ref hl),some (.ref L.a),some (.int (i:Int)),v6]∧ju B H (.ref L.a) H2 r∧i≤most∧ef p (most-i) r=ef p most (dW data bw)∧(r.ending=none→I i r)∧m'=2*(most-i)+(if r.ending=none then 1 else 0),
    fun σ' H2 ⟨m',l,z⟩=>⟨m',by rw[aPos rfl];exact l,z⟩,?_⟩
   refine⟨_,rfl,_,rfl,_,_,rfl,rfl,_,rfl,?_⟩
   refine ao (fun h1=>?_) (fun h1=>?_)
   ·have g1:i=most:=by have:=aZ h1;lia
    refine⟨_,rfl,L.a,_,L.dx,_,rfl,hR.ins,cl,U.jS,(by show 7<1000;decide),?_⟩
    refine⟨2*(most-i)+0,by lia,i,{r with ending:=some 2},v6,rfl,⟨L,us,rfl,hR.kj hR.apart r.place (some 2)⟩,Wz,?_,(fun z=>nomatch z),rfl⟩
    rw[←eL,Ed _ (by simp),g1,Nat.sub_self]
    exact(aPos en).symm
   ·have g1:i<most:=by
     have:¬((i:Int)=(most:Int)):=fun z=>h1 (bq z)
     lia
    refine⟨_,rfl,_,H,cZ,hR.same,_,rfl,L.a,_,L.dx,_,_,rfl,hR.ins,cl,U.ie,rfl,ah.refl _,_,_,rfl,so.at_.1,mj (by have:=so.at_;lia),fun u1 i1=>?_⟩
    obtain⟨f,v1,fd,r1,r2,r3⟩:=Wv (base:=base) U (p.getD r.place.toNat aW).cls (uJ _)
    refine⟨_,rfl,_,(i1.mono hR.same).gT,_,_,_,_,rfl,rfl,T.zG _,ic v1,_,rfl,r1,_,rfl,_,rfl,_,rfl,fd,_,_,r2,r3,bP,p,_,r,_,_,H,rfl,cZ,i1,⟨L,us,rfl,hR⟩,ok,so,rfl,fun H2 h2=>?_⟩
    refine⟨_,rfl,_,_,rfl,rfl,?_⟩
    have es:iA (p.getD r.place.toNat aW).cls p r (p.getD r.place.toNat aW)=fW p r:=rfl
    rw[es]at h2
    have nx:=hI.next i r (by lia) (JK en) en
    refine⟨2*(most-(i+1))+(if(fW p r).ending=none then 1 else 0),?_,i+1,fW p r,some u1,?_,h2,by lia,?_,fun _=>nx,rfl⟩
    ·split<;>lia
    ·rw[show(((i+1:Nat)):Int)=(i:Int)+1 by lia]
     rfl
    ·rw[←eL,show most-i=(most-(i+1))+1 by lia]
     exact(aPos en).symm
def WA (K:W.Frag) (B:bE):Sp:=fun vs H Q _=>∃(v:V) (r:RS) (H0:Hp) (e:Int),vs=[v]∧ju B H0 v H r∧r.ending=some e∧(r.asked.length≤4000∧(∀row∈r.asked,row.length=7)∧r.data.length≤256)∧∀a H',ah H H'→H a=none→H' a=some (.lst ((rT r).map V.int))→Q (.ref a) H'
theorem Ef:∀(l:List (List Int)),(∀row∈l,row.length=7)→l.flatten.length=7*l.length
 |[],_=>rfl
 |x::r,h=>by
  rw[List.flatten_cons,List.length_append,h x List.mem_cons_self,Ef r fun y hy=>h y (List.mem_cons_of_mem _ hy),List.length_cons]
  lia
theorem Eg:aI ["run","told","row"] ["run"] (aG (top 161)):=aM
theorem WB (U:cF P w K mg A B):Callee P w K mg base 1 "told_of_run" ["run"] (WA K B):=by
 have T:=U.t
 refine aT T.zj Eg (fun _ _ _ _ _ _=>Z9 fun _=>by kernel_rfl) (fun _ _ _ _ h=>?_) (fun _ _ _ _ _ H vs Q E _ h=>?_)
 ·obtain⟨_,_,_,_,rfl,_⟩:=h
  rfl
 ·obtain⟨v,r,H0,e,rfl,⟨L,us,rfl,hR⟩,he,⟨h1,h2,h3⟩,k⟩:=h
  have cl:=U.eV
  have qc:us.length=r.asked.length:=Paired.len hR.rows
  refine⟨_,au (bg (i:=1) Eg.nd rfl (Or.inl rfl) (bO (af (br (pv 0) rfl) (af (cN (aX (aO (br (pv 0) rfl) (aU T.tR))) (gM gO aj) (br (pv 0) rfl)) (af (bZ eO (by rfl) T.d8 boot_len (af (br (pv 0) rfl) ai)) ai)))))<|
   au (kL PassesOwn.never rfl (sH (br (pv 0) rfl)) (gf (i:=2) Eg.nd rfl (Or.inl rfl)) (ak (jH (tw PySem.F.plainAttrs_list PySem.F.slot_list_extend PySem.F.type_list_extend Gs (pv 1) (af (pv 2) ai)))))<|
   ak (ay (aF qP (aF qP (pv 1) (bO (af (bZ eO (by rfl) T.d8 boot_len (af (br (br (pv 0) rfl) rfl) ai)) ai))) (br (br (pv 0) rfl) rfl))),?_⟩
  try dsimp only[aad]
  have oz:H L.a=some (.ins B.cy L.dx (oq L.rl L.dm L.sm L.hl L.al r.place (some e))):=by rw[←he];exact hR.ins
  have go:∀z:Int,(if r.ending=some 0 then -1 else r.place)=z→∀q,H q=none→eN (FN (FJ K (ia K (bh 0) "asked")) (qE 2) (qD (wg K "list" Gr (bh 1) (bW (bh 2) cK))))
    (kK (dX qO (dX qO (bh 1) (sR (bW (vY (fun xs H Q=>∃p ys,xs=[.ref p]∧(aJ K H p ys∨cI K H p ys)∧Q (.int ys.length) H) (bW (ia K (ia K (bh 0) "data") "cells") cK)) cK))) (ia K (ia K (bh 0) "data") "cells"))) {nx:=fun _ H'=>Q .aK H',rt:=Q}
    [some (.ref L.a),some (.ref q),none] (upd H q (.lst [.int e,.int z,.int (us.length:Int)])):=by
   intro z hz q hq
   have s1:ah H (upd H q (.lst [.int e,.int z,.int (us.length:Int)])):=ah.new hq
   have nq:∀b o,H b=some o→b≠q:=fun b o e=>aY e hq
   refine⟨_,rfl,L.a,_,L.dx,_,_,rfl,s1 _ _ oz,cl,U.nQ,rfl,L.al,rfl,⟨_,aJ.of (s1 _ _ hR.ask)⟩,B9 (a:=L.al) (xs:=us) (fun i σ H'=>∃v2,σ=[some (.ref L.a),some (.ref q),v2]∧H'=upd H q (.lst (([e,z,(r.asked.length:Int)]++(r.asked.take i).flatten).map V.int)))
    ⟨none,rfl,by rw[qc];rfl⟩ (fun i σ H' _ ⟨_,_,w⟩=>by rw[w];exact aJ.of (by rw[aL (nq _ _ hR.ask)];exact hR.ask)) ?_ ?_⟩
   ·rintro i x σ H' hx ⟨v2,rfl,rfl⟩
    have hil:i<r.asked.length:=by rw[←qc];exact(List.getElem?_eq_some_iff.mp hx).1
    obtain⟨x',hx',w0,ew,q0,_⟩:=Paired.at hR.rows (List.getElem?_eq_getElem hil)
    have ex:=Option.some.inj (hx.symm.trans hx')
    subst ex
    subst ew
    refine⟨_,rfl,.inl ⟨rfl,_,aJ.of aH⟩,_,rfl,q,w0,_,_,rfl,rfl,aH,(by rw[aL (nq _ _ q0)];exact q0),?_,?_⟩
    ·rw[List.length_map,List.length_map,List.length_append,Ef _ (fun row qe=>h2 row (List.mem_of_mem_take qe)),h2 _ (List.getElem_mem hil),List.length_take]
     exact Nat.le_trans (show 3+7*min i r.asked.length+7≤40000 by lia) (by decide)
    ·rw[dj,←List.map_append]
     refine⟨_,rfl,?_⟩
     rw[List.take_add_one,List.getElem?_eq_getElem hil,List.flatten_append,List.append_assoc]
     simp
   ·rintro σ H' ⟨v2,rfl,rfl⟩
    rw[qc,List.take_length]
    have s2:∀o,ah H (upd H q o):=fun o=>ah.new hq
    have hfl:([e,z,(r.asked.length:Int)]++r.asked.flatten).length≤30000:=by
     rw[List.length_append,Ef _ h2]
     show 3+7*r.asked.length≤30000
     lia
    refine⟨_,rfl,_,rfl,L.a,_,L.dx,_,_,rfl,s2 _ _ _ oz,cl,U.pQ,rfl,L.dm,_,L.k9,_,_,rfl,s2 _ _ _ hR.dat.ins,U.eG,U.mw,rfl,_,_,rfl,Or.inl (aJ.of (s2 _ _ _ hR.dat.cells)),cB,fun q2 hq2=>?_⟩
    have s3:=ah.new (o:= .lst [.int (((r.data.map V.int).length:Nat):Int)]) hq2
    refine⟨q,q2,_,_,rfl,rfl,s3 _ _ aH,aH,?_,fun q3 Eb=>?_⟩
    ·rw[List.length_map]
     exact Nat.le_trans (show _+1≤40000 by lia) (by decide)
    have s4:=ah.new (o:= .lst ((([e,z,(r.asked.length:Int)]++r.asked.flatten).map V.int)++[.int (((r.data.map V.int).length:Nat):Int)])) Eb
    refine⟨_,rfl,L.a,_,L.dx,_,_,rfl,s4 _ _ (s3 _ _ (s2 _ _ _ oz)),cl,U.pQ,rfl,L.dm,_,L.k9,_,_,rfl,s4 _ _ (s3 _ _ (s2 _ _ _ hR.dat.ins)),U.eG,U.mw,rfl,q3,L.dc,_,_,rfl,rfl,aH,s4 _ _ (s3 _ _ (s2 _ _ _ hR.dat.cells)),?_,fun q4 rM=>?_⟩
    ·rw[List.length_append,List.length_map,List.length_map]
     exact Nat.le_trans (show _+1+r.data.length≤40000 by lia) (by decide)
    refine k q4 _ (ah.trans (s2 _) (ah.trans s3 (ah.trans s4 (ah.new rM)))) (ah.free (ah.trans (s2 _) (ah.trans s3 s4)) rM) ?_
    rw[aH]
    unfold rT
    rw[he,show(if some e=some 0 then -1 else r.place)=z by rw[←he];exact hz,List.length_map]
    simp only[List.map_append,Option.getD_some]
    rfl
  refine⟨_,rfl,L.a,_,L.dx,_,_,rfl,oz,cl,U.jS,rfl,_,rfl,L.a,_,L.dx,_,_,rfl,oz,cl,U.jS,rfl,_,_,rfl,rfl,_,rfl,?_⟩
  refine ao (fun c1=>?_) (fun c1=>?_)
  ·have g1:e=0:=aZ c1
   refine⟨_,rfl,_,rfl,L.a,_,L.dx,_,_,rfl,oz,cl,U.nQ,rfl,_,_,rfl,Or.inl (aJ.of hR.ask),IJ,fun q hq=>?_⟩
   exact go (-1) (by rw[he,g1];rfl) q hq
  ·have g1:¬e=0:=fun w=>c1 (bq w)
   refine⟨_,rfl,L.a,_,L.dx,_,_,rfl,oz,cl,U.ie,rfl,_,rfl,L.a,_,L.dx,_,_,rfl,oz,cl,U.nQ,rfl,_,_,rfl,Or.inl (aJ.of hR.ask),IJ,fun q hq=>?_⟩
   exact go r.place (by rw[he,aa (fun w=>g1 (Option.some.inj w))]) q hq
def WC (K:W.Frag):Sp:=fun vs H Q _=>∃(r:Addr) (l:List Int),vs=[.ref r]∧H r=some (.lst (l.map V.int))∧l.length≤100000∧∀H',ah H H'→Q (.bl (mX l)) H'
theorem Eh:aI ["row","number"] ["row"] (aG (top 169)):=aM
theorem JL (T:Txt P w K mg A):Callee P w K mg base 1 "are_bytes" ["row"] (WC K):=by
 refine aT T.zk Eh (fun _ _ _ _ _ _=>Z9 fun _=>by kernel_rfl) (fun _ _ _ _ h=>?_) (fun _ _ _ _ _ H vs Q E _ h=>?_)
 ·obtain⟨_,_,rfl,_⟩:=h
  rfl
 ·obtain⟨r,l,rfl,h1,hl,k⟩:=h
  refine⟨_,ak (ay (bZ (Cr rfl) (by rfl) T.tU boot_all (af (tG (own:=[("number",1)]) rfl Eh.nd (sH (pv 0)) (tH (by kernel_rfl)) (fun _ _ _ _ _=>gf (i:=1) Eh.nd rfl (Or.inl rfl)) (fun _ _ _ _ _=>tF) (fun _ _ _ _ _=>Cb dD dD aj (pv 1) aj)) ai))),?_⟩
  try dsimp only[aad]
  refine⟨_,rfl,r,rfl,⟨_,aJ.of h1⟩,fun D hD=>?_⟩
  refine GI (a:=r) (xs:=l.map V.int) (fun i H'=>ah H H'∧H' D=some (.lst ((l.take i).map fun z=>V.bl (mW z)))) ⟨ah.new hD,aH⟩ (fun i H' _ ⟨z,_⟩=>aJ.of (z _ _ h1)) ?_ ?_
  ·rintro i x H' hx ⟨sm,hd⟩
   rw[List.getElem?_map]at hx
   obtain⟨y,hy,rfl⟩:=Option.map_eq_some_iff.mp hx
   refine⟨rfl,uK ?_⟩
   have fin:∀c,mW y=c→∃acc,H' D=some (.lst acc)∧acc.length<sizeLine∧(ah H (upd H' D (.lst (acc++[.bl c])))∧(upd H' D (.lst (acc++[.bl c]))) D=some (.lst ((l.take (i+1)).map fun z=>V.bl (mW z)))):=fun c ec=>by
    refine⟨_,hd,?_,ah.mT sm hD,?_⟩
    ·rw[List.length_map,List.length_take]
     exact Nat.lt_of_le_of_lt (Nat.le_trans (Nat.min_le_right _ _) hl) (by decide)
    ·rw[aH,List.take_add_one,hy,List.map_append,←ec]
     rfl
   refine⟨_,rfl,_,_,rfl,rfl,_,rfl,?_⟩
   refine ao (fun c1=>?_) (fun c1=>?_)
   ·exact⟨_,_,rfl,rfl,fin _ (aPos c1)⟩
   ·exact fin _ (aa c1)
  ·rintro H' ⟨sm,hd⟩
   rw[List.length_map,List.take_length]at hd
   exact⟨D,l.map mW,rfl,aJ.of (by rw[List.map_map];exact hd),k _ sm⟩
def WD (K:W.Frag):Sp:=fun vs H Q _=>∃(r:Addr) (l:List Int),vs=[.ref r]∧H r=some (.lst (l.map V.int))∧l.length≤100000∧∀H',ah H H'→Q (.bl (jw l)) H'
theorem WE:aI ["code"] ["code"] (aG (top 170)):=aM
theorem WG (T:Txt P w K mg A):Callee P w K mg base 2 "is_code" ["code"] (WD K):=by
 refine aT T.zl WE (fun _ _ _ _ _ _=>Z9 fun _=>by kernel_rfl) (fun _ _ _ _ h=>?_) (fun _ _ _ _ _ H vs Q E hr h=>?_)
 ·obtain⟨_,_,rfl,_⟩:=h
  rfl
 ·obtain⟨r,l,rfl,h1,hl,k⟩:=h
  refine⟨_,au (aN (gJ (aX (aO (bZ eO (by rfl) T.d8 boot_len (af (pv 0) ai)) aj)) (gJ (aX (gp (aF g9 (bZ eO (by rfl) T.d8 boot_len (af (pv 0) ai)) aj) aj)) (i8 (bY ny (bZ eO (by rfl) T.d8 boot_len (af (pv 0) ai)) (aF iF aj (aU T.zB)) (bz _))))).pt (ak (ay lI)) aP)<|
   ak (ay (aE (JL T) (hr.mono (by decide)) (af (pv 0) ai))),?_⟩
  try dsimp only[aad]
  unfold jw at k
  have no:(l.length=0∨l.length%8≠0∨1024<l.length)→Q (.bl false) H:=fun z=>by
   have q:=k H (ah.refl _)
   rw[aPos z]at q
   exact q
  refine⟨_,rfl,_,_,rfl,Or.inl (aJ.of h1),_,_,rfl,rfl,_,rfl,?_⟩
  refine ao (fun c1=>?_) (fun c1=>?_)
  ·refine cA ?_
   refine no (Or.inl ?_)
   have:=aZ c1
   rw[List.length_map]at this
   lia
  ·refine⟨_,rfl,_,_,rfl,Or.inl (aJ.of h1),_,_,rfl,rfl,(by show(0:Int)<8;decide),_,_,rfl,rfl,_,rfl,?_⟩
   refine ao (fun c2=>?_) (fun c2=>?_)
   ·refine cA ?_
    refine no (Or.inr (Or.inl ?_))
    have q:¬((((l.map V.int).length:Nat):Int)%8=0):=by simpa using c2
    rw[List.length_map]at q
    lia
   ·refine⟨_,rfl,_,_,rfl,Or.inl (aJ.of h1),_,_,rfl,rfl,Or.inl ⟨by decide,by decide⟩,_,_,rfl,rfl,_,rfl,?_⟩
    refine ao (fun c3=>?_) (fun c3=>?_)
    ·refine no (Or.inr (Or.inr ?_))
     have:=aZ c3
     rw[List.length_map]at this
     lia
    ·have q1:¬((((l.map V.int).length:Nat):Int)=0):=fun z=>c1 (bq z)
     have q2:((((l.map V.int).length:Nat):Int)%8=0):=by simpa using c2
     have q3:¬(((8:Int)*128)<(((l.map V.int).length:Nat):Int)):=fun z=>c3 (bq z)
     rw[List.length_map]at q1 q2 q3
     rw[aa (by lia)]at k
     exact⟨_,rfl,r,l,rfl,h1,hl,k⟩
def WH (K:W.Frag):Sp:=fun vs H Q _=>∃(r:Addr) (l:List Int),vs=[.ref r]∧H r=some (.lst (l.map V.int))∧l.length≤100000∧∀H',ah H H'→Q (.bl (iR l)) H'
theorem WI:aI ["data"] ["data"] (aG (top 171)):=aM
theorem WJ (T:Txt P w K mg A):Callee P w K mg base 2 "is_data" ["data"] (WH K):=by
 refine aT T.zm WI (fun _ _ _ _ _ _=>Z9 fun _=>by kernel_rfl) (fun _ _ _ _ h=>?_) (fun _ _ _ _ _ H vs Q E hr h=>?_)
 ·obtain⟨_,_,rfl,_⟩:=h
  rfl
 ·obtain⟨r,l,rfl,h1,hl,k⟩:=h
  refine⟨_,ak (ay (bN (c6 dD (bZ eO (by rfl) T.d8 boot_len (af (pv 0) ai)) (aU T.qZ) (bz _)) (cC (aE (JL T) (hr.mono (by decide)) (af (pv 0) ai))))),?_⟩
  try dsimp only[aad]
  unfold iR at k
  refine⟨_,rfl,_,_,rfl,Or.inl (aJ.of h1),_,_,rfl,rfl,_,rfl,?_⟩
  refine ao (fun c1=>?_) (fun c1=>?_)
  ·have q:=aZ c1
   rw[List.length_map]at q
   rw[aPos (by lia)]at k
   exact⟨_,rfl,r,l,rfl,h1,hl,k⟩
  ·have q:¬((((l.map V.int).length:Nat):Int)≤256):=fun z=>c1 (bq z)
   rw[List.length_map]at q
   rw[aa (by lia)]at k
   exact k _ (ah.refl _)
def WK (K:W.Frag):Sp:=fun vs H Q _=>∃(r:Addr) (l:List Int),vs=[.ref r]∧H r=some (.lst (l.map V.int))∧l.length≤100000∧∀H',ah H H'→Q (.bl (gY l)) H'
theorem Ei:aI ["helpers","place"] ["helpers"] (aG (top 172)):=aM
theorem WM (T:Txt P w K mg A):Callee P w K mg base 1 "are_answers" ["helpers"] (WK K):=by
 refine aT T.zo Ei (fun _ _ _ _ _ _=>Z9 fun _=>by kernel_rfl) (fun _ _ _ _ h=>?_) (fun _ _ _ _ _ H vs Q E _ h=>?_)
 ·obtain⟨_,_,rfl,_⟩:=h
  rfl
 ·obtain⟨r,l,rfl,h1,hl,k⟩:=h
  refine⟨_,au (aN (aX (gp (aF g9 (bZ eO (by rfl) T.d8 boot_len (af (pv 0) ai)) aj) aj)) (ak (ay lI)) aP)<|
   ak (ay (bZ (Cr rfl) (by rfl) T.tU boot_all (af (tG (own:=[("place",1)]) rfl Ei.nd (GO (by rfl) T.jh (af aj (af (bZ eO (by rfl) T.d8 boot_len (af (pv 0) ai)) (af aj ai)))) (tH (by kernel_rfl)) (fun _ _ _ _ _=>gf (i:=1) Ei.nd rfl (Or.inl rfl)) (fun _ _ _ _ _=>tF)
    (fun _ _ _ _ _=>Cb (r:=fE fun i j=> .bl (decide (i≤j))) (r':=fE fun i j=> .bl (decide (i≤j))) dD dD aj (bX (r:=qM K) bR (pv 0) (pv 1) (fun _ _=>rfl)) (aU T.qX))) ai))),?_⟩
  try dsimp only[aad]
  unfold gY at k
  refine⟨_,rfl,_,_,rfl,Or.inl (aJ.of h1),_,_,rfl,rfl,(by show(0:Int)<2;decide),_,_,rfl,rfl,_,rfl,?_⟩
  refine ao (fun c1=>?_) (fun c1=>?_)
  ·have q:¬((((l.map V.int).length:Nat):Int)%2=0):=by simpa using c1
   rw[List.length_map]at q
   rw[aPos (by lia)]at k
   exact k _ (ah.refl _)
  ·have q:((((l.map V.int).length:Nat):Int)%2=0):=by simpa using c1
   rw[List.length_map]at q
   rw[aa (by lia)]at k
   refine⟨_,rfl,_,_,rfl,Or.inl (aJ.of h1),_,_,_,l.length/2,rfl,Jd (.inl rfl) (by rw[List.length_map];lia) (by lia),fun D hD=>?_⟩
   refine Jc (n:=l.length/2) (fun i H'=>ah H H'∧H' D=some (.lst (((List.range (l.length/2)).take i).map fun(i:Nat)=>V.bl (mY (l.getD (2*i) 0))))) ⟨ah.new hD,aH⟩ ?_ ?_
   ·rintro i H' hi ⟨sm,hd⟩
    refine⟨rfl,uK ?_⟩
    have e0:((0:Int)+(i:Int)*2).toNat=2*i:=by lia
    have fin:∀c,mY (l.getD (2*i) 0)=c→∃acc,H' D=some (.lst acc)∧acc.length<sizeLine∧(ah H (upd H' D (.lst (acc++[.bl c])))∧(upd H' D (.lst (acc++[.bl c]))) D=some (.lst (((List.range (l.length/2)).take (i+1)).map fun(i:Nat)=>V.bl (mY (l.getD (2*i) 0))))):=fun c ec=>by
     refine⟨_,hd,?_,ah.mT sm hD,?_⟩
     ·rw[List.length_map,List.length_take]
      exact Nat.lt_of_le_of_lt (Nat.le_trans (Nat.min_le_left _ _) (by lia:i≤100000)) (by decide)
     ·rw[aH,List.take_add_one,List.getElem?_range hi,List.map_append,←ec]
      rfl
    refine⟨_,rfl,_,rfl,_,_,_,_,rfl,rfl,aJ.of (sm _ _ h1),jf (by lia) (by rw[e0];exact iP (by lia)),_,_,rfl,rfl,_,rfl,?_⟩
    refine ao (fun c2=>?_) (fun c2=>?_)
    ·exact⟨_,_,rfl,rfl,fin _ (aPos c2)⟩
    ·exact fin _ (aa c2)
   ·rintro H' ⟨sm,hd⟩
    rw[List.take_of_length_le (by rw[List.length_range];lia)]at hd
    exact⟨D,_,rfl,aJ.of (by rw[List.map_map];exact hd),k _ sm⟩
def cV (a:Addr) (i:Int):List (Str×V):=[("numbers",.ref a),("place",.int i)]
theorem WN {H:Hp} {q p:Addr} {C dx:Addr} {fs gs:List (Str×V)} {xs:List V} (hq:H q=some (.ins C dx fs)) (z:aJ K H p xs):aJ K (upd H q (.ins C dx gs)) p xs:=by
 rcases z with(z|⟨o,z⟩)|z
 ·exact .inl (.inl (by rw[aL (bF z hq (fun w=>by cases w))];exact z))
 ·exact .inl (.inr ⟨o,by rw[aL (bF z hq (fun w=>by cases w))];exact z⟩)
 ·exact .inr z
def WO (K:W.Frag) (B:bE):Sp:=fun vs H Q _=>∃(c dx a:Addr),vs=[.ref c,.ref a]∧H c=some (.ins B.b8 dx [])∧∀H',fq c H H'→H' c=some (.ins B.b8 dx (cV a 0))→Q .aK H'
theorem WQ:aI ["self","numbers"] ["self","numbers"] (aG (inClass (top 167) 0)):=aM
theorem WR (U:cF P w K mg A B):dQ P w K mg base 1 B.C7 ["self","numbers"] (WO K B):=by
 have T:=U.t
 refine fH U.Ai WQ (fun _ _ _ _ _ _=>ln2 fun _ _=>by kernel_rfl) (fun _ _ _ _ h=>?_) (fun _ _ _ _ H vs Q E _ h=>?_)
 ·obtain⟨_,_,_,rfl,_⟩:=h
  rfl
 ·obtain⟨c,dx,a,rfl,hc,k⟩:=h
  refine⟨_,au (bQ (pv 0) (pv 1) rfl)<|ak (bQ (pv 0) aj rfl),?_⟩
  try dsimp only[aad]
  refine⟨_,rfl,_,rfl,c,_,dx,_,rfl,hc,U.dN,U.rC,(by decide),?_⟩
  refine⟨_,rfl,c,_,dx,_,rfl,aH,U.dN,U.mz,(by show 1<1000;decide),?_⟩
  rw[dj]
  exact k _ (fun b o e hb=>by rw[aL hb];exact e) aH
def WS (K:W.Frag) (B:bE):Sp:=fun vs H Q _=>∃(c dx a:Addr) (ns:List Int) (i:Nat),vs=[.ref c]∧H c=some (.ins B.b8 dx (cV a (i:Int)))∧aJ K H a (ns.map V.int)∧Q (.bl (decide (i<ns.length))) H
theorem WT:aI ["self"] ["self"] (aG (inClass (top 167) 1)):=aM
theorem WU (U:cF P w K mg A B):dQ P w K mg base 1 B.C8 ["self"] (WS K B):=by
 have T:=U.t
 refine fH U.Ak WT (fun _ _ _ _ _ _=>Z9 fun _=>by kernel_rfl) (fun _ _ _ _ h=>?_) (fun _ _ _ _ H vs Q E _ h=>?_)
 ·obtain⟨_,_,_,_,_,rfl,_⟩:=h
  rfl
 ·obtain⟨c,dx,a,ns,i,rfl,hc,ha,k⟩:=h
  refine⟨_,ak (ay (c6 iG (br (pv 0) rfl) (bZ eO (by rfl) T.d8 boot_len (af (br (pv 0) rfl) ai)) (bz _))),?_⟩
  try dsimp only[aad]
  refine⟨_,rfl,c,_,dx,_,_,rfl,hc,U.dN,U.mz,rfl,_,rfl,c,_,dx,_,_,rfl,hc,U.dN,U.rC,rfl,_,_,rfl,Or.inl ha,_,_,rfl,rfl,?_⟩
  rw[List.length_map]
  have e:decide ((i:Int)<(ns.length:Int))=decide (i<ns.length):=by
   by_cases h:i<ns.length
   ·rw[bq h];exact bq (by lia)
   ·rw[decide_eq_false h];exact decide_eq_false (by lia)
  exact(congrArg (fun z=>Q (.bl z) H) e).mpr k
def WV (K:W.Frag) (B:bE):Sp:=fun vs H Q _=>∃(c dx a:Addr) (ns:List Int) (i:Nat),vs=[.ref c]∧H c=some (.ins B.b8 dx (cV a (i:Int)))∧aJ K H a (ns.map V.int)∧i<ns.length∧Q (.int (ns.getD i 0)) (upd H c (.ins B.b8 dx (cV a ((i+1:Nat):Int))))
theorem JM:aI ["self","number"] ["self"] (aG (inClass (top 167) 2)):=aM
theorem qf (U:cF P w K mg A B):dQ P w K mg base 1 B.C9 ["self"] (WV K B):=by
 have T:=U.t
 refine fH U.Am JM (fun _ _ _ _ _ _=>Z9 fun _=>by kernel_rfl) (fun _ _ _ _ h=>?_) (fun _ _ _ _ H vs Q E _ h=>?_)
 ·obtain⟨_,_,_,_,_,rfl,_⟩:=h
  rfl
 ·obtain⟨c,dx,a,ns,i,rfl,hc,ha,hi,k⟩:=h
  refine⟨_,au (bg (i:=1) JM.nd rfl (Or.inl rfl) (bX bR (br (pv 0) rfl) (br (pv 0) rfl) (fun _ _=>rfl)))<|au (o6 (pv 0) aj o7)<|ak (ay (pv 1)),?_⟩
  try dsimp only[aad]
  refine⟨_,rfl,c,_,dx,_,_,rfl,hc,U.dN,U.rC,rfl,_,rfl,c,_,dx,_,_,rfl,hc,U.dN,U.mz,rfl,_,_,_,_,rfl,rfl,ha,ic (iP hi),?_⟩
  refine⟨_,rfl,c,_,dx,_,_,rfl,hc,U.dN,U.mz,rfl,_,_,rfl,rfl,dx,_,hc,(by show 2<1000;decide),_,rfl,?_⟩
  exact k
def WW (K:W.Frag) (B:bE):Sp:=fun vs H Q _=>∃(c dx a:Addr) (ns:List Int) (i n:Nat),vs=[.ref c]∧H c=some (.ins B.b8 dx (cV a (i:Int)))∧aJ K H a (ns.map V.int)∧i<ns.length∧ns.getD i 0=(n:Int)∧i+1+n≤ns.length∧
 ∀q H',fq c H H'→H q=none→H' c=some (.ins B.b8 dx (cV a ((i+1+n:Nat):Int)))→H' q=some (.lst (((ns.drop (i+1)).take n).map V.int))→Q (.ref q) H'
theorem Ej:aI ["self","end","row"] ["self"] (aG (inClass (top 167) 3)):=aM
theorem Ek (U:cF P w K mg A B):dQ P w K mg base 2 B.Dc ["self"] (WW K B):=by
 have T:=U.t
 refine fH U.An Ej (fun _ _ _ _ _ _=>Z9 fun _=>by kernel_rfl) (fun _ _ _ _ h=>?_) (fun _ _ _ _ H vs Q E hr h=>?_)
 ·obtain⟨_,_,_,_,_,_,rfl,_⟩:=h
  rfl
 ·obtain⟨c,dx,a,ns,i,n,rfl,hc,ha,hi,en,hn,k⟩:=h
  refine⟨_,au (bg (i:=1) Ej.nd rfl (Or.inl rfl) (aF bL (jk U.dN U.kX (qf U) (hr.mono (by decide)) (pv 0)) (br (pv 0) rfl)))<|
   au (bg (i:=2) Ej.nd rfl (Or.inl rfl) (sW sY (br (pv 0) rfl) (lP (br (pv 0) rfl)) (lP (pv 1))))<|
   au (bQ (pv 0) (pv 1) rfl)<|ak (ay (pv 2)),?_⟩
  try dsimp only[aad]
  refine⟨_,rfl,c,dx,_,rfl,hc,rfl,c,dx,a,ns,i,rfl,hc,ha,hi,?_⟩
  have hc1:(upd H c (.ins B.b8 dx (cV a ((i+1:Nat):Int)))) c=_:=aH
  refine⟨_,rfl,c,_,dx,_,_,rfl,hc1,U.dN,U.mz,rfl,_,_,rfl,rfl,?_⟩
  have ee:(fun(i j:Int)=>V.int (i+j)) (ns.getD i 0) ((i+1:Nat):Int)=V.int ((i+1+n:Nat):Int):=by
   show V.int (ns.getD i 0+((i+1:Nat):Int))=_
   rw[en]
   congr 1
   lia
  rw[ee]
  refine⟨_,rfl,c,_,dx,_,_,rfl,hc1,U.dN,U.rC,rfl,_,rfl,c,_,dx,_,_,rfl,hc1,U.dN,U.mz,rfl,_,rfl,_,rfl,_,rfl,a,_,rfl,WN hc ha,fun q hq=>?_⟩
  rw[D9 _ _ _ hn (by lia)]
  have El:q≠c:=fun z=>by rw[z,hc1]at hq;cases hq
  refine⟨_,rfl,_,rfl,c,_,dx,_,rfl,(by rw[aL (Ne.symm El)];exact hc1),U.dN,U.mz,(by show 2<1000;decide),_,rfl,?_⟩
  have oh:H q=none:=by rw[aL El]at hq;exact hq
  refine k q _ (fun b o e hb=>?_) oh aH ?_
  ·rw[aL hb,aL (aY e oh),aL hb];exact e
  ·rw[aL El,aH,show i+1+n-(i+1)=n by lia]
def iS (vp vj vl:V):List (Str×V):=[("program",vp),("judgement",vj),("last_run",vl)]
def PO (K:W.Frag) (G:Hp) (v:V):Option (List Insn)→Prop
 |none=>v= .aK
 |some p=>dg K G v p
def JO (K:W.Frag) (G:Hp) (v:V):Option (gn×Option Nat)→Prop
 |none=>v= .aK
 |some t=>kc K G v t.1 t.2∧t.1≠[]
def Em (B:bE) (G:Hp) (v:V) (regs stack:List Int):Prop:=∃a dx fs rl sm gD sc base,v= .ref a∧G a=some (.ins B.cy dx fs)∧fs.lookup ("registers":Str)=some (.ref rl)∧fs.lookup ("stack":Str)=some (.ref sm)∧G rl=some (.lst (regs.map V.int))∧G sm=some (.ins B.gv gD (oj base sc))∧G sc=some (.lst (stack.map V.int))
def LO (B:bE) (G:Hp) (v:V):Option (List Int×List Int)→Prop
 |none=>v= .aK
 |some t=>Em B G v t.1 t.2
def off (rc c tl:Addr) (H:Hp):Hp:=fun b=>if b=rc∨b=c∨b=tl then none else H b
section
variable {rc c tl:Addr} {H H':Hp}
theorem off_ne {b:Addr} (h1:b≠rc) (h2:b≠c) (h3:b≠tl):off rc c tl H b=H b:=aa fun z=>z.elim h1 fun y=>y.elim h2 h3
theorem jx:ah (off rc c tl H) H:=fun b o e=>by
 unfold off at e
 split at e
 ·cases e
 ·exact e
theorem Be (s:∀b o,H b=some o→b≠rc→b≠c→b≠tl→H' b=some o):ah (off rc c tl H) (off rc c tl H'):=fun b o e=>by
 unfold off at e ⊢
 split at e
 ·cases e
 ·rename_i n
  rw[aa n]
  exact s b o e (fun z=>n (.inl z)) (fun z=>n (.inr (.inl z))) fun z=>n (.inr (.inr z))
theorem PO.mono {v:V} {o:Option (List Insn)} (h:PO K H v o) (s:ah H H'):PO K H' v o:=by
 cases o with
 |none=>exact h
 |some p=>exact dg.mono h s
theorem JO.mono {v:V} {o:Option (gn×Option Nat)} (h:JO K H v o) (s:ah H H'):JO K H' v o:=by
 cases o with
 |none=>exact h
 |some p=>exact⟨kc.mono h.1 s,h.2⟩
theorem LO.mono {v:V} {o:Option (List Int×List Int)} (h:LO B H v o) (s:ah H H'):LO B H' v o:=by
 cases o with
 |none=>exact h
 |some p=>
  obtain⟨a,dx,fs,rl,sm,gD,sc,base,e,h1,h2,h3,h4,h5,h6⟩:=h
  exact⟨a,dx,fs,rl,sm,gD,sc,base,e,s _ _ h1,h2,h3,s _ _ h4,s _ _ h5,s _ _ h6⟩
structure fX (B:bE) (H:Hp) (c tl:Addr):Prop where
 bT:∃dx a i,H c=some (.ins B.b8 dx (cV a i))
 lg:∃l:List Int,H tl=some (.lst (l.map V.int))
structure RecAt (K:W.Frag) (B:bE) (H:Hp) (rc c tl:Addr) (R:RR):Prop where
 ex:∃dx vp vj vl,H rc=some (.ins B.dR dx (iS vp vj vl))∧PO K (off rc c tl H) vp R.prog∧JO K (off rc c tl H) vj R.iB∧LO B (off rc c tl H) vl R.last
theorem RecAt.grow {R:RR} (h:RecAt K B H rc c tl R) (s:∀b o,H b=some o→b≠c→b≠tl→H' b=some o) (n1:rc≠c) (n2:rc≠tl):RecAt K B H' rc c tl R:=by
 obtain⟨dx,vp,vj,vl,h1,h2,h3,h4⟩:=h.ex
 have sm:ah (off rc c tl H) (off rc c tl H'):=Be fun b o e _ x y=>s b o e x y
 exact⟨dx,vp,vj,vl,s _ _ h1 n1 n2,h2.mono sm,h3.mono sm,h4.mono sm⟩
theorem RecAt.ne {R:RR} (h:RecAt K B H rc c tl R) (d:fX B H c tl):rc≠c∧rc≠tl∧c≠tl:=by
 obtain⟨dx,vp,vj,vl,h1,_⟩:=h.ex
 obtain⟨gP,a,i,h2⟩:=d.bT
 obtain⟨l,h3⟩:=d.lg
 refine⟨bF h1 h2 (fun w=>?_),bF h1 h3 (fun w=>by cases w),bF h2 h3 (fun w=>by cases w)⟩
 injection w with _ _ w
 exact absurd (congrArg List.length w) (by show ¬(3=2);decide)
theorem Bf {z tl:Addr} {us:List V} {l:List Int} (h:H z=some (.lst us)) (ht:H tl=some (.lst (l.map V.int))) {u:V} (hu:u∈us) (hn:∀i,u≠ .int i):z≠tl:=fun e=>by
 subst e
 rw[h]at ht
 have e2:us=l.map V.int:=by injection ht with w;injection w
 rw[e2]at hu
 obtain⟨i,_,e3⟩:=List.mem_map.mp hu
 exact hn i e3.symm
theorem lq {z q:Addr} {C dx C' gP:Addr} {fs gs:List (Str×V)} {f:Str} {v:V} (h:H z=some (.ins C dx fs)) (hq:H q=some (.ins C' gP gs)) (hf:fs.lookup f=some v) (hg:gs.lookup f=none):z≠q:=fun e=>by
 subst e
 rw[h]at hq
 injection hq with w
 injection w with _ _ w
 rw[w,hg]at hf
 cases hf
theorem oA {z q:Addr} {C dx:Addr} {fs:List (Str×V)} {us:List V} (h:H z=some (.lst us)) (hq:H q=some (.ins C dx fs)):z≠q:=bF h hq (fun w=>by cases w)
theorem dg.off {v:V} {p:List Insn} (h:dg K H v p) {R:RR} (hr:RecAt K B H rc c tl R) (d:fX B H c tl):dg K (off rc c tl H) v p:=by
 obtain⟨⟨a,C,dx,fs,il,bl,vs,e,h1,h2,h3,h4,h5,h6,h7,h8,h9⟩,hl⟩:=h
 obtain⟨bC,vp,vj,vl,r1,_⟩:=hr.ex
 obtain⟨Bg,ca,ci,c1⟩:=d.bT
 obtain⟨Bh,t1⟩:=d.lg
 have ki:∀{u:V} {i:Insn},bf K H u i→bf K (My.off rc c tl H) u i:=fun{u i} ⟨ok,x,C',d',eu,hx,z⟩=>⟨ok,x,C',d',eu,by
  rw[off_ne (lq hx r1 (f:="code") rfl rfl) (lq hx c1 (f:="code") rfl rfl) (bF hx t1 (fun w=>by cases w))];exact hx,z⟩
 have n0:∃u∈vs,∀i,u≠ .int i:=by
  obtain⟨y,hy⟩:∃y,p[0]? =some y:=⟨_,List.getElem?_eq_getElem hl.1⟩
  obtain⟨x,hx,fx⟩:=Paired.at h8 hy
  obtain⟨_,x',_,_,ex,_⟩:=fx
  exact⟨x,List.mem_of_getElem? hx,fun i w=>by rw[ex]at w;cases w⟩
 obtain⟨u0,m0,WX⟩:=n0
 have n1:∃u∈(beginsFrom false p).map V.bl,∀i,u≠ .int i:=by
  have hb:0<(beginsFrom false p).length:=by rw[lS];exact hl.1
  exact⟨_,List.mem_map.mpr ⟨_,List.getElem_mem hb,rfl⟩,fun i w=>by cases w⟩
 obtain⟨u1,m1,WY⟩:=n1
 refine⟨⟨a,C,dx,fs,il,bl,vs,e,?_,h2,h3,h4,h5,h6,?_,Paired.ck h8 fun _ _ z=>ki z,?_⟩,hl⟩
 ·rw[off_ne (lq h1 r1 h5 rfl) (lq h1 c1 h5 rfl) (bF h1 t1 (fun w=>by cases w))];exact h1
 ·rw[off_ne (oA h7 r1) (oA h7 c1) (Bf h7 t1 m0 WX)];exact h7
 ·rw[off_ne (oA h9 r1) (oA h9 c1) (Bf h9 t1 m1 WY)];exact h9
theorem aQ.off {v:V} {s:S3} (h:aQ K H v s) {R:RR} (hr:RecAt K B H rc c tl R) (d:fX B H c tl):aQ K (My.off rc c tl H) v s:=by
 obtain⟨p,e,z⟩:=h
 obtain⟨bC,vp,vj,vl,r1,_⟩:=hr.ex
 obtain⟨Bg,ca,ci,c1⟩:=d.bT
 obtain⟨Bh,t1⟩:=d.lg
 refine⟨p,e,?_⟩
 rcases z with(z|⟨o,z⟩)|z
 ·exact .inl (.inl (by rw[off_ne (bF z r1 (fun w=>by cases w)) (bF z c1 (fun w=>by cases w)) (bF z t1 (fun w=>by cases w))];exact z))
 ·exact .inl (.inr ⟨o,by rw[off_ne (bF z r1 (fun w=>by cases w)) (bF z c1 (fun w=>by cases w)) (bF z t1 (fun w=>by cases w))];exact z⟩)
 ·exact .inr z
theorem dU.off {v:V} {o:Option (List S3)} (h:dU K H v o) {R:RR} (hr:RecAt K B H rc c tl R) (d:fX B H c tl):dU K (My.off rc c tl H) v o:=by
 cases o with
 |none=>exact h
 |some l=>
  obtain⟨p,vs,e,h1,h2,h3⟩:=h
  obtain⟨bC,vp,vj,vl,r1,_⟩:=hr.ex
  obtain⟨Bg,ca,ci,c1⟩:=d.bT
  obtain⟨Bh,t1⟩:=d.lg
  obtain⟨y,hy⟩:∃y,l[0]? =some y:=⟨_,List.getElem?_eq_getElem (by lia)⟩
  obtain⟨x,hx,p2,ex,_⟩:=Paired.at h2 hy
  exact⟨p,vs,e,by rw[off_ne (oA h1 r1) (oA h1 c1) (Bf h1 t1 (List.mem_of_getElem? hx) fun i w=>by rw[ex]at w;cases w)];exact h1,Paired.ck h2 fun _ _ z=>z.off hr d,h3⟩
theorem kc.off {v:V} {ts:gn} {wr:Option Nat} (h:kc K H v ts wr) (hne:ts≠[]) {R:RR} (hr:RecAt K B H rc c tl R) (d:fX B H c tl):kc K (My.off rc c tl H) v ts wr:=by
 obtain⟨a,C,dx,fs,sl,us,e,h1,h2,h3,h4,h5,h6,h7,h8⟩:=h.ex
 obtain⟨bC,vp,vj,vl,r1,_⟩:=hr.ex
 obtain⟨Bg,ca,ci,c1⟩:=d.bT
 obtain⟨Bh,t1⟩:=d.lg
 obtain⟨y,hy⟩:∃y,ts[0]? =some y:=⟨_,List.getElem?_eq_getElem (List.length_pos_iff.mpr hne)⟩
 obtain⟨x,hx,fx⟩:=Paired.at h8 hy
 have nx:∀i,x≠ .int i:=fun i w=>by
  cases y with
  |none=>rw[show x= .aK from fx]at w;cases w
  |some l=>obtain⟨p,_,ex,_⟩:=fx;rw[ex]at w;cases w
 refine⟨a,C,dx,fs,sl,us,e,?_,h2,h3,h4,h5,h6,?_,Paired.ck h8 fun _ _ z=>z.off hr d⟩
 ·rw[off_ne (lq h1 r1 h5 rfl) (lq h1 c1 h5 rfl) (bF h1 t1 (fun w=>by cases w))];exact h1
 ·rw[off_ne (oA h7 r1) (oA h7 c1) (Bf h7 t1 (List.mem_of_getElem? hx) nx)];exact h7
end
def jy (K:W.Frag) (B:bE) (H:Hp) (rc c tl:Addr) (R':RR) (fY:List Int) (Q:VK):Prop:=∀a H',(∀b o,H b=some o→b≠rc→H' b=some o)→RecAt K B H' rc c tl R'→H a=none→H' a=some (.lst (fY.map V.int))→Q (.ref a) H'
section
variable {rc c tl:Addr} {H H1 H':Hp} {R R':RR} {fY:List Int} {Q:VK}
theorem fX.mono (d:fX B H c tl) (s:ah H H'):fX B H' c tl:=by
 obtain⟨dx,a,i,h2⟩:=d.bT
 obtain⟨l,h3⟩:=d.lg
 exact⟨⟨dx,a,i,s _ _ h2⟩,⟨l,s _ _ h3⟩⟩
theorem RecAt.same (h:RecAt K B H rc c tl R) (d:fX B H c tl) (s:ah H H'):RecAt K B H' rc c tl R:=h.grow (fun b o e _ _=>s b o e) (h.ne d).1 (h.ne d).2.1
theorem jy.old (k:jy K B H rc c tl R fY Q) (h:RecAt K B H rc c tl R) (d:fX B H c tl) (s:ah H H') {a:Addr} (ha:H a=none) (e:H' a=some (.lst (fY.map V.int))):Q (.ref a) H':=
 k a _ (fun b o e _=>s _ _ e) (h.same d s) ha e
theorem jy.new (k:jy K B H rc c tl R fY Q) (h:RecAt K B H rc c tl R) (d:fX B H c tl) (s:ah H H1) {a:Addr} (ha:H1 a=none):Q (.ref a) (upd H1 a (.lst (fY.map V.int))):=
 k.old h d (ah.trans s (ah.new ha)) (ah.free s ha) aH
theorem En {dx:Addr} {vp vj vl:V} (s:∀b o,H b=some o→b≠rc→H' b=some o) (h:H' rc=some (.ins B.dR dx (iS vp vj vl))) (h1:PO K (off rc c tl H) vp R.prog) (h2:JO K (off rc c tl H) vj R.iB) (h3:LO B (off rc c tl H) vl R.last):RecAt K B H' rc c tl R:=by
 have sm:ah (off rc c tl H) (off rc c tl H'):=Be fun b o e x _ _=>s b o e x
 exact⟨dx,vp,vj,vl,h,h1.mono sm,h2.mono sm,h3.mono sm⟩
end
def WZ (K:W.Frag) (B:bE):Sp:=fun vs H Q _=>∃(rc dx:Addr),vs=[.ref rc]∧H rc=some (.ins B.dR dx [])∧∀H',fq rc H H'→H' rc=some (.ins B.dR dx (iS .aK .aK .aK))→Q .aK H'
theorem W0:aI ["self"] ["self"] (aG (inClass (top 168) 0)):=aM
theorem W2 (U:cF P w K mg A B):dQ P w K mg base 1 B.Dd ["self"] (WZ K B):=by
 have T:=U.t
 refine fH U.Ao W0 (fun _ _ _ _ _ _=>Z9 fun _=>by kernel_rfl) (fun _ _ _ _ h=>?_) (fun _ _ _ _ H vs Q E _ h=>?_)
 ·obtain⟨_,_,rfl,_⟩:=h
  rfl
 ·obtain⟨c,dx,rfl,hc,k⟩:=h
  refine⟨_,au (bQ (pv 0) dO rfl)<|au (bQ (pv 0) dO rfl)<|ak (bQ (pv 0) dO rfl),?_⟩
  try dsimp only[aad]
  refine⟨_,rfl,c,_,dx,_,rfl,hc,U.cQ,U.mC,(by decide),?_⟩
  refine⟨_,rfl,c,_,dx,_,rfl,aH,U.cQ,U.mD,(by show 1<1000;decide),?_⟩
  rw[dj]
  refine⟨_,rfl,c,_,dx,_,rfl,aH,U.cQ,U.kY,(by show 2<1000;decide),?_⟩
  rw[dj]
  exact k _ (fun b o e hb=>by rw[aL hb];exact e) aH
theorem JN {l:List Int} (h:mX l=true):AllB l:=fun z hz=>by
 have q:=List.all_eq_true.mp h (mW z) (List.mem_map.mpr ⟨z,hz,rfl⟩)
 unfold mW at q
 split at q
 ·rename_i g
  exact⟨aZ g,aZ q⟩
 ·cases q
theorem Eo {l:List Int} (h:jw l=true):(l.length%8=0∧0<l.length∧l.length≤1024)∧AllB l:=by
 unfold jw at h
 split at h
 ·cases h
 ·exact⟨by lia,JN h⟩
def W3 (K:W.Frag) (B:bE):Sp:=fun vs H Q _=>∃(rc c tl q:Addr) (R:RR) (code:List Int),vs=[.ref rc,.ref q]∧fX B H c tl∧RecAt K B H rc c tl R∧H q=some (.lst (code.map V.int))∧code.length≤100000∧jy K B H rc c tl (rV R code).1 (rV R code).2 Q
theorem Ep:aI ["self","code","program","fault"] ["self","code"] (aG (inClass (top 168) 1)):=aM
theorem W4 (U:cF P w K mg A B):dQ P w K mg base 8 B.De ["self","code"] (W3 K B):=by
 have T:=U.t
 refine fH U.Ar Ep (fun _ _ _ _ _ _=>ln2 fun _ _=>by kernel_rfl) (fun _ _ _ _ h=>?_) (fun _ _ _ _ H vs Q E hr h=>?_)
 ·obtain⟨_,_,_,_,_,_,rfl,_⟩:=h
  rfl
 ·obtain⟨rc,c,tl,q,R,code,rfl,d,hR,hq,hl,k⟩:=h
  refine⟨_,au (aN (gK (bI (aE (WG T) (hr.mono (by decide)) (af (pv 1) ai)) (fun _=>rfl))) (ak (ay (bO (af (gM gO aj) ai)))) aP)<|
   au (bg (i:=2) Ep.nd rfl (Or.inl rfl) (pN U.z9 (Vl U) (hr.mono (by decide)) U.OG (af (pv 1) ai)))<|
   au (bg (i:=3) Ep.nd rfl (Or.inl rfl) (aE (Uk T) (hr.mono (by decide)) (af (pv 2) ai)))<|
   au (aN (bI (pv 3) (fun _=>rfl)) (ak (ay (pv 3))) aP)<|
   au (bQ (pv 0) (pv 2) rfl)<|au (bQ (pv 0) dO rfl)<|au (bQ (pv 0) dO rfl)<|ak (ay (bO (af aj ai))),?_⟩
  try dsimp only[aad]
  unfold rV at k
  refine⟨_,rfl,q,code,rfl,hq,hl,fun H1 s1=>⟨_,rfl,?_⟩⟩
  refine ao (fun c1=>?_) (fun c1=>?_)
  ·rw[aa (fun z=>by rw[z]at c1;cases c1)]at k
   exact⟨_,rfl,cB,fun a ha=>k.new hR d s1 ha⟩
  ·have c2:jw code=true:=by
    cases e:jw code with
    |true=>rfl
    |false=>exact absurd (by rw[e];rfl) c1
   rw[aPos c2]at k
   obtain⟨ho,hb⟩:=Eo c2
   refine⟨_,rfl,fun a dx ha hdx hne=>?_⟩
   have s2:ah H1 (upd (upd H1 dx (.own a)) a (.ins B.mq dx [])):=fun b o e=>by rw[aL (aY e ha),aL (aY e hdx)];exact e
   refine⟨a,dx,q,code,rfl,aH,s2 _ _ (s1 _ _ hq),ho,hb,fun H2 b2 hP=>⟨rfl,?_⟩⟩
   have s3:ah H1 H2:=fun b o e=>b2 _ _ (s2 _ _ e) (aY e ha)
   refine⟨_,rfl,_,_,rfl,hP,fun f H3 s4 hf JP=>?_⟩
   have s5:ah H H3:=ah.trans s1 (ah.trans s3 s4)
   have W5:H f=none:=ah.free (ah.trans s1 s3) hf
   refine⟨_,rfl,_,Or.inl ⟨_,aJ.of JP,rfl⟩,?_⟩
   refine ao (fun c3=>?_) (fun c3=>?_)
   ·rw[aa (fun z=>by rw[z]at c3;cases c3)]at k
    exact⟨_,rfl,k.old hR d s5 W5 JP⟩
   ·have c4:gy (progOf code) (progOf code).length=[]:=by
     cases e:gy (progOf code) (progOf code).length with
     |nil=>rfl
     |cons x y=>exact absurd (by rw[e];rfl) c3
    rw[aPos c4]at k
    have JQ:=hR.same d s5
    have d3:=d.mono s5
    have W6:=dg.off (hP.mono s4) JQ d3
    obtain⟨bC,vp,vj,vl,r1,_⟩:=JQ.ex
    refine⟨_,rfl,_,rfl,rc,_,bC,_,rfl,r1,U.cQ,U.mC,(by show 3<1000;decide),?_⟩
    refine⟨_,rfl,rc,_,bC,_,rfl,aH,U.cQ,U.mD,(by show 3<1000;decide),?_⟩
    rw[dj]
    refine⟨_,rfl,rc,_,bC,_,rfl,aH,U.cQ,U.kY,(by show 3<1000;decide),?_⟩
    rw[dj]
    refine⟨cB,fun w hw=>?_⟩
    have s6:∀b o,H3 b=some o→b≠rc→(upd (upd H3 rc (.ins B.dR bC (iS (.ref a) .aK .aK))) w (.lst [.int 0])) b=some o:=fun b o e hb=>by
     have e2:(upd H3 rc (.ins B.dR bC (iS (.ref a) .aK .aK))) b=some o:=by rw[aL hb];exact e
     rw[aL (aY e2 hw)];exact e2
    have hwr:w≠rc:=fun z=>by rw[z,aH]at hw;cases hw
    refine k w _ (fun b o e hb=>s6 _ _ (s5 _ _ e) hb) (En (dx:=bC) (vp:= .ref a) (vj:= .aK) (vl:= .aK) s6 ?_ W6 rfl rfl) ?_ aH
    ·rw[aL (Ne.symm hwr)]
     exact aH
    ·rw[aL hwr]at hw
     exact ah.free s5 hw
def W7 (K:W.Frag) (B:bE):Sp:=fun vs H Q _=>∃(rc c tl:Addr) (R:RR) (least:Int),vs=[.ref rc,.int least]∧fX B H c tl∧RecAt K B H rc c tl R∧(∀p,R.prog=some p→0≤least→least≤256→∃G,A6 p least G)∧jy K B H rc c tl (mZ R least).1 (mZ R least).2 Q
theorem W8:aI ["self","least"] ["self","least"] (aG (inClass (top 168) 2)):=aM
theorem W9 (U:cF P w K mg A B):dQ P w K mg base 10 B.Df ["self","least"] (W7 K B):=by
 have T:=U.t
 refine fH U.Au W8 (fun _ _ _ _ _ _=>ln2 fun _ _=>by kernel_rfl) (fun _ _ _ _ h=>?_) (fun _ _ _ _ H vs Q E hr h=>?_)
 ·obtain⟨_,_,_,_,_,rfl,_⟩:=h
  rfl
 ·obtain⟨rc,c,tl,R,least,rfl,d,hR,hj,k⟩:=h
  refine⟨_,au (aN (bY iH (br (pv 0) rfl) dO (bz _)) (ak (ay (bO (af (gM gO aj) ai)))) aP)<|
   au (aN (gK (sM dD dD aj (pv 1) (aU T.qZ))) (ak (ay (bO (af (gM gO aj) ai)))) aP)<|
   au (bQ (pv 0) (aE (Vv U) (hr.mono (by decide)) (af (br (pv 0) rfl) (af (pv 1) ai))) rfl)<|
   au (aN (bY iH (br (br (pv 0) rfl) rfl) dO (bz _)) (ak (ay (bO (af aj ai)))) aP)<|
   ak (ay (bO (af aj (af (br (br (pv 0) rfl) rfl) ai)))),?_⟩
  try dsimp only[aad]
  obtain⟨bC,vp,vj,vl,r1,rp,rj,rl⟩:=hR.ex
  refine⟨_,rfl,rc,_,bC,_,_,rfl,r1,U.cQ,U.mC,rfl,rfl,_,rfl,?_⟩
  cases ep:R.prog with
  |none=>
   rw[show mZ R least=(R,[-1]) by unfold mZ;rw[ep]]at k
   rw[ep]at rp
   cases(show vp= .aK from rp)
   refine cA ?_
   exact⟨_,rfl,cB,fun a ha=>k.new hR d (ah.refl _) ha⟩
  |some p=>
   rw[ep]at rp
   have rp:dg K (My.off rc c tl H) vp p:=rp
   have Er:vp≠ .aK:=by obtain⟨⟨a,_,_,_,_,_,_,e,_⟩,_⟩:=rp;rw[e];exact fun z=>nomatch z
   refine ao (fun z=>absurd (aZ z) Er) (fun _=>?_)
   have km:mZ R least=if 0≤least∧least≤256 then({R with iB:=some (cH p least p.length)},match(cH p least p.length).2 with|none=>[0]|some k=>[1,(k:Int)])else(R,[-2]):=by unfold mZ;rw[ep]
   rw[km]at k
   have no:¬(0≤least∧least≤256)→∀a,H a=none→Q (.ref a) (upd H a (.lst [.int (-2)])):=fun z a ha=>by
    rw[aa z]at k
    exact k.new hR d (ah.refl _) ha
   refine⟨_,rfl,_,_,rfl,rfl,_,rfl,?_⟩
   refine ao (fun c1=>?_) (fun c1=>?_)
   rotate_left
   ·refine⟨_,rfl,cA ?_⟩
    exact⟨_,rfl,cB,fun a ha=>no (fun z=>c1 (bq z.1)) a ha⟩
   have g1:=aZ c1
   refine⟨_,_,rfl,rfl,_,rfl,?_⟩
   refine ao (fun c2=>?_) (fun c2=>?_)
   ·exact⟨_,rfl,cB,fun a ha=>no (fun z=>by rw[bq z.2]at c2;cases c2) a ha⟩
   have g2:least≤256:=by
    refine Decidable.byContradiction fun z=>c2 ?_
    rw[decide_eq_false z];rfl
   rw[aPos ⟨g1,g2⟩]at k
   obtain⟨G,hG⟩:=hj p ep g1 g2
   have ZS:0<p.length:=rp.2.1
   refine⟨_,rfl,rc,_,bC,_,_,rfl,r1,U.cQ,U.mC,rfl,_,rfl,_,p,least,G,rfl,rp.mono jx,hG,fun v H1 s1 hJ=>?_⟩
   have dJ:=hR.same d s1
   have d1:=d.mono s1
   have JR:(cH p least p.length).1≠[]:=fun z=>by
    have:=uO p least p.length
    rw[z]at this
    exact absurd this (by simp;lia)
   have Xa:=kc.off hJ JR dJ d1
   refine⟨_,rfl,rc,_,bC,_,rfl,s1 _ _ r1,U.cQ,U.mD,(by show 3<1000;decide),?_⟩
   have so:ah (My.off rc c tl H) (My.off rc c tl H1):=Be fun b o e _ _ _=>s1 _ _ e
   have s2:∀b o,H1 b=some o→b≠rc→(upd H1 rc (.ins B.dR bC (iS vp v vl))) b=some o:=fun b o e hb=>by rw[aL hb];exact e
   obtain⟨a,C,dx,fs,sl,us,ev,j1,j2,j3,j4,j5,j6,j7,j8⟩:=hJ.ex
   have JS:=s2 _ _ j1 (lq j1 (s1 _ _ r1) j5 rfl)
   have fin:∀fY:List Int,jy K B H rc c tl {R with iB:=some (cH p least p.length)} fY Q→∀w,(upd H1 rc (.ins B.dR bC (iS vp v vl))) w=none→Q (.ref w) (upd (upd H1 rc (.ins B.dR bC (iS vp v vl))) w (.lst (fY.map V.int))):=fun fY k w hw=>by
    have hwr:w≠rc:=fun z=>by rw[z,aH]at hw;cases hw
    have s3:∀b o,H1 b=some o→b≠rc→(upd (upd H1 rc (.ins B.dR bC (iS vp v vl))) w (.lst (fY.map V.int))) b=some o:=fun b o e hb=>by rw[aL (aY (s2 _ _ e hb) hw)];exact s2 _ _ e hb
    refine k w _ (fun b o e hb=>s3 _ _ (s1 _ _ e) hb) (En (dx:=bC) (vp:=vp) (vj:=v) (vl:=vl) s3 ?_ ?_ ⟨Xa,JR⟩ (rl.mono so)) ?_ aH
    ·rw[aL (Ne.symm hwr)]
     exact aH
    ·show PO K _ vp R.prog
     rw[ep]
     exact dg.mono rp so
    ·rw[aL hwr]at hw
     exact ah.free s1 hw
   refine⟨_,rfl,rc,_,bC,_,_,rfl,aH,U.cQ,U.mD,rfl,a,C,dx,fs,_,ev,JS,j2,j4,j6,rfl,_,rfl,?_⟩
   cases ew:(cH p least p.length).2 with
   |none=>
    rw[ew]at k
    refine cA ?_
    exact⟨cB,fun w hw=>fin _ k w hw⟩
   |some n=>
    rw[ew]at k j6
    refine ao (fun z=>nomatch (aZ z)) (fun _=>?_)
    exact⟨_,rfl,rc,_,bC,_,_,rfl,aH,U.cQ,U.mD,rfl,a,C,dx,fs,_,ev,JS,j2,j4,j6,iw,fun w hw=>fin _ k w hw⟩
theorem qg {p:List Insn} {n:Nat} (h:Path.begins p n=true):n<p.length:=by
 unfold Path.begins at h
 rw[←lS p false]
 refine Decidable.byContradiction fun z=>?_
 rw[List.getD_eq_getElem?_getD,List.getElem?_eq_none (by omega)]at h
 cases h
def Xb (K:W.Frag) (B:bE):Sp:=fun vs H Q _=>∃(rc c tl:Addr) (R:RR) (place slot:Int),vs=[.ref rc,.int place,.int slot]∧fX B H c tl∧RecAt K B H rc c tl R∧(∀t,R.iB=some t→∃p,R.prog=some p∧t.1.length=p.length)∧jy K B H rc c tl R (lu R place slot) Q
theorem JT:aI ["self","place","slot","state"] ["self","place","slot"] (aG (inClass (top 168) 3)):=aM
theorem Xc (U:cF P w K mg A B):dQ P w K mg base 2 B.Dg ["self","place","slot"] (Xb K B):=by
 have T:=U.t
 refine fH U.Aw JT (fun _ _ _ _ _ _=>Z8 fun _ _ _=>by kernel_rfl) (fun _ _ _ _ h=>?_) (fun _ _ _ _ H vs Q E hr h=>?_)
 ·obtain⟨_,_,_,_,_,_,rfl,_⟩:=h
  rfl
 ·obtain⟨rc,c,tl,R,place,slot,rfl,d,hR,hj,k⟩:=h
  refine⟨_,au (aN (gJ (bY iH (br (pv 0) rfl) dO (bz _)) (gJ (gK (bI (aE (IK T) (hr.mono (by decide)) (af (br (pv 0) rfl) (af (pv 1) ai))) (fun _=>rfl))) (i8 (gK (sM dD iG aj (pv 2) (aU T.tO)))))).pt (ak (ay (bO (af (gM gO aj) ai)))) aP)<|
   au (bg (i:=3) JT.nd rfl (Or.inl rfl) (bX bR (br (br (pv 0) rfl) rfl) (pv 1) (fun _ _=>rfl)))<|
   ak (ay (cN (bY iH (pv 3) dO (bz _)) (bO (af (aU T.zD) ai)) (lO pq (by rfl) T.kR boot_list (af (lR (pv 3) (pv 2)) ai)))),?_⟩
  try dsimp only[aad]
  obtain⟨bC,vp,vj,vl,r1,rp,rj,rl⟩:=hR.ex
  refine⟨_,rfl,rc,_,bC,_,_,rfl,r1,U.cQ,U.mD,rfl,rfl,_,rfl,?_⟩
  cases ej:R.iB with
  |none=>
   rw[show lu R place slot=[-1] by unfold lu;rw[ej]]at k
   rw[ej]at rj
   cases(show vj= .aK from rj)
   refine cA (cA ?_)
   exact⟨_,rfl,cB,fun a ha=>k.new hR d (ah.refl _) ha⟩
  |some t=>
   rw[ej]at rj
   obtain⟨rj,rn⟩:=(show kc K (My.off rc c tl H) vj t.1 t.2∧t.1≠[]from rj)
   obtain⟨p,ep,el⟩:=hj t ej
   rw[ep]at rp
   have rp:dg K (My.off rc c tl H) vp p:=rp
   obtain⟨ja,C,dx,fs,sl,us,ev,j1,j2,j3,j4,j5,j6,j7,j8⟩:=rj.ex
   have uX:vj≠ .aK:=by rw[ev];exact fun z=>nomatch z
   refine ao (fun z=>absurd (aZ z) uX) (fun _=>?_)
   have km:lu R place slot=if gX p place=true∧0≤slot∧slot<75 then(match t.1.getD place.toNat none with|none=>[3]|some l=>[(l.getD slot.toNat (0,0,0)).1,(l.getD slot.toNat (0,0,0)).2.1,(l.getD slot.toNat (0,0,0)).2.2])else[-1]:=by unfold lu;rw[ej,ep]
   rw[km]at k
   have no:¬(gX p place=true∧0≤slot∧slot<75)→∀a,H a=none→Q (.ref a) (upd H a (.lst [.int (-1)])):=fun z a ha=>by
    rw[aa z]at k
    exact k.new hR d (ah.refl _) ha
   refine⟨_,rfl,rc,_,bC,_,_,rfl,r1,U.cQ,U.mC,rfl,_,rfl,_,p,place,rfl,rp.mono jx,_,rfl,?_⟩
   refine ao (fun c1=>?_) (fun c1=>?_)
   ·refine cA ?_
    exact⟨_,rfl,cB,fun a ha=>no (fun z=>by rw[z.1]at c1;cases c1) a ha⟩
   have g1:gX p place=true:=by
    cases e:gX p place with
    |true=>rfl
    |false=>exact absurd (by rw[e];rfl) c1
   refine⟨_,rfl,_,_,rfl,rfl,_,rfl,?_⟩
   refine ao (fun c2=>?_) (fun c2=>?_)
   rotate_left
   ·refine⟨_,rfl,cA ?_⟩
    exact⟨_,rfl,cB,fun a ha=>no (fun z=>c2 (bq z.2.1)) a ha⟩
   have g2:=aZ c2
   refine⟨_,_,rfl,rfl,_,rfl,?_⟩
   refine ao (fun c3=>?_) (fun c3=>?_)
   ·exact⟨_,rfl,cB,fun a ha=>no (fun z=>by rw[bq z.2.2]at c3;cases c3) a ha⟩
   have g3:slot<75:=by
    refine Decidable.byContradiction fun z=>c3 ?_
    rw[decide_eq_false z];rfl
   rw[aPos ⟨g1,g2,g3⟩]at k
   unfold gX at g1
   rw[Bool.and_eq_true]at g1
   have g4:=aZ g1.1
   have g5:=qg g1.2
   obtain⟨y,hy⟩:∃y,t.1[place.toNat]? =some y:=⟨_,List.getElem?_eq_getElem (by omega)⟩
   obtain⟨u,hu,fu⟩:=Paired.at j8 hy
   have fu:=dU.mono fu jx
   rw[show t.1.getD place.toNat none=y by rw[List.getD_eq_getElem?_getD,hy];rfl]at k
   refine⟨_,rfl,rc,_,bC,_,_,rfl,r1,U.cQ,U.mD,rfl,ja,C,dx,fs,_,ev,jx _ _ j1,j2,j3,j5,_,rfl,sl,us,_,_,rfl,rfl,aJ.of (jx _ _ j7),jf g4 hu,?_⟩
   refine⟨_,rfl,rfl,_,rfl,?_⟩
   cases y with
   |none=>
    cases(show u= .aK from fu)
    refine cA ?_
    exact⟨cB,fun a ha=>k.new hR d (ah.refl _) ha⟩
   |some l=>
    have nu:u≠ .aK:=by obtain⟨z,_,e,_⟩:=fu;rw[e];exact fun z=>nomatch z
    refine ao (fun z=>absurd (aZ z) nu) (fun _=>?_)
    refine⟨_,rfl,_,rfl,l,slot,fu,rfl,⟨g2,g3⟩,fun w hw=>?_⟩
    obtain⟨z,rfl,hz⟩:=hw
    exact⟨_,_,rfl,Or.inr hz,fun a ha=>k.new hR d (ah.refl _) ha⟩
def Xd (K:W.Frag) (B:bE):Sp:=fun vs H Q _=>∃(rc c tl:Addr) (R:RR) (n:Int),vs=[.ref rc,.int n]∧fX B H c tl∧RecAt K B H rc c tl R∧(∀t,R.last=some t→t.1.length=11)∧jy K B H rc c tl R (ly R n) Q
theorem Xe:aI ["self","number"] ["self","number"] (aG (inClass (top 168) 5)):=aM
theorem Xf (U:cF P w K mg A B):dQ P w K mg base 1 B.Di ["self","number"] (Xd K B):=by
 have T:=U.t
 refine fH U.AA Xe (fun _ _ _ _ _ _=>ln2 fun _ _=>by kernel_rfl) (fun _ _ _ _ h=>?_) (fun _ _ _ _ H vs Q E _ h=>?_)
 ·obtain⟨_,_,_,_,_,rfl,_⟩:=h
  rfl
 ·obtain⟨rc,c,tl,R,n,rfl,d,hR,hj,k⟩:=h
  refine⟨_,au (aN (gJ (bY iH (br (pv 0) rfl) dO (bz _)) (i8 (gK (sM dD dD aj (pv 1) (aU T.pH))))).pt (ak (ay (bO (af (gM gO aj) ai)))) aP)<|
   ak (ay (bO (af (bX bR (br (br (pv 0) rfl) rfl) (pv 1) (fun _ _=>rfl)) ai))),?_⟩
  try dsimp only[aad]
  obtain⟨bC,vp,vj,vl,r1,rp,rj,rl⟩:=hR.ex
  refine⟨_,rfl,rc,_,bC,_,_,rfl,r1,U.cQ,U.kY,rfl,rfl,_,rfl,?_⟩
  cases ej:R.last with
  |none=>
   rw[show ly R n=[-1] by unfold ly;rw[ej]]at k
   rw[ej]at rl
   cases(show vl= .aK from rl)
   refine cA (cA ?_)
   exact⟨_,rfl,cB,fun a ha=>k.new hR d (ah.refl _) ha⟩
  |some t=>
   rw[ej]at rl
   obtain⟨a,dx,fs,rl,sm,gD,sc,base',e,l1,l2,l3,l4,l5,l6⟩:=(show Em B (My.off rc c tl H) vl t.1 t.2 from rl)
   have uX:vl≠ .aK:=by rw[e];exact fun z=>nomatch z
   refine ao (fun z=>absurd (aZ z) uX) (fun _=>?_)
   have el:=hj t ej
   have km:ly R n=if 0≤n∧n≤10 then[t.1.getD n.toNat 0]else[-1]:=by unfold ly;rw[ej]
   rw[km]at k
   have no:¬(0≤n∧n≤10)→∀a,H a=none→Q (.ref a) (upd H a (.lst [.int (-1)])):=fun z a ha=>by
    rw[aa z]at k
    exact k.new hR d (ah.refl _) ha
   refine⟨_,rfl,_,_,rfl,rfl,_,rfl,?_⟩
   refine ao (fun c2=>?_) (fun c2=>?_)
   rotate_left
   ·refine⟨_,rfl,cA ?_⟩
    exact⟨_,rfl,cB,fun a ha=>no (fun z=>c2 (bq z.1)) a ha⟩
   have g2:=aZ c2
   refine⟨_,_,rfl,rfl,_,rfl,?_⟩
   refine ao (fun c3=>?_) (fun c3=>?_)
   ·exact⟨_,rfl,cB,fun a ha=>no (fun z=>by rw[bq z.2]at c3;cases c3) a ha⟩
   have g3:n≤10:=by
    refine Decidable.byContradiction fun z=>c3 ?_
    rw[decide_eq_false z];rfl
   rw[aPos ⟨g2,g3⟩]at k
   exact⟨_,rfl,rc,_,bC,_,_,rfl,r1,U.cQ,U.kY,rfl,a,_,dx,fs,_,e,jx _ _ l1,U.eV,U.eH,l2,_,rfl,rl,_,_,_,rfl,rfl,aJ.of (jx _ _ l4),jf g2 (iP (by omega)),cB,fun a ha=>k.new hR d (ah.refl _) ha⟩
def Xg (K:W.Frag) (B:bE):Sp:=fun vs H Q _=>∃(rc c tl:Addr) (R:RR),vs=[.ref rc]∧fX B H c tl∧RecAt K B H rc c tl R∧(∀t,R.last=some t→t.2.length=512)∧jy K B H rc c tl R (lz R) Q
theorem JU:aI ["self","cells"] ["self"] (aG (inClass (top 168) 6)):=aM
theorem Xh (U:cF P w K mg A B):dQ P w K mg base 1 B.Dj ["self"] (Xg K B):=by
 have T:=U.t
 refine fH U.AD JU (fun _ _ _ _ _ _=>Z9 fun _=>by kernel_rfl) (fun _ _ _ _ h=>?_) (fun _ _ _ _ H vs Q E _ h=>?_)
 ·obtain⟨_,_,_,_,rfl,_⟩:=h
  rfl
 ·obtain⟨rc,c,tl,R,rfl,d,hR,hj,k⟩:=h
  refine⟨_,au (aN (bY iH (br (pv 0) rfl) dO (bz _)) (ak (ay (bO (af (gM gO aj) ai)))) aP)<|
   au (bg (i:=1) JU.nd rfl (Or.inl rfl) (br (br (br (pv 0) rfl) rfl) rfl))<|
   ak (ay (aF qP (bO (af (bZ eO (by rfl) T.d8 boot_len (af (pv 1) ai)) ai)) (pv 1))),?_⟩
  try dsimp only[aad]
  obtain⟨bC,vp,vj,vl,r1,rp,rj,rl⟩:=hR.ex
  refine⟨_,rfl,rc,_,bC,_,_,rfl,r1,U.cQ,U.kY,rfl,rfl,_,rfl,?_⟩
  cases ej:R.last with
  |none=>
   rw[show lz R=[-1] by unfold lz;rw[ej]]at k
   rw[ej]at rl
   cases(show vl= .aK from rl)
   refine cA ?_
   exact⟨_,rfl,cB,fun a ha=>k.new hR d (ah.refl _) ha⟩
  |some t=>
   rw[ej]at rl
   obtain⟨a,dx,fs,rl,sm,gD,sc,base',e,l1,l2,l3,l4,l5,l6⟩:=(show Em B (My.off rc c tl H) vl t.1 t.2 from rl)
   have uX:vl≠ .aK:=by rw[e];exact fun z=>nomatch z
   refine ao (fun z=>absurd (aZ z) uX) (fun _=>?_)
   have el:=hj t ej
   rw[show lz R=(t.2.length:Int)::t.2 by unfold lz;rw[ej]]at k
   refine⟨_,rfl,rc,_,bC,_,_,rfl,r1,U.cQ,U.kY,rfl,a,_,dx,fs,_,e,jx _ _ l1,U.eV,U.rB,l3,sm,_,gD,_,_,rfl,jx _ _ l5,U.eG,U.mw,rfl,?_⟩
   refine⟨_,rfl,_,_,rfl,Or.inl (aJ.of (jx _ _ l6)),cB,fun q hq=>?_⟩
   rw[List.length_map]
   have s1:ah H (upd H q (.lst [.int (t.2.length:Int)])):=ah.new hq
   refine⟨_,rfl,q,sc,_,_,rfl,rfl,aH,s1 _ _ (jx _ _ l6),?_,fun a ha=>k.new hR d s1 ha⟩
   rw[List.length_map,el]
   decide
def del (rc:Addr) (H:Hp):Hp:=fun b=>if b=rc then none else H b
theorem cj.gG {H0 H:Hp} {L:RA} {us:List V} {r:RS} {rc C dx:Addr} {vp vj vl Es Et Eu:V} (h:cj B H0 L us H r) (h0:H0 rc=some (.ins C dx (iS vp vj vl))):cj B (del rc H0) L us (upd H rc (.ins C dx (iS Es Et Eu))) r:=by
 have rW:=h.same _ _ h0
 have k:∀b o,H b=some o→b≠rc→(upd H rc (.ins C dx (iS Es Et Eu))) b=some o:=fun b o e n=>by rw[aL n];exact e
 have nl:∀{b:Addr} {xs:List V},H b=some (.lst xs)→b≠rc:=fun e=>bF e rW (fun w=>by cases w)
 have nm:∀{b C' gP:Addr} {base:Int} {cc:Addr},H b=some (.ins C' gP (oj base cc))→b≠rc:=fun e=>lq e rW (f:="base") rfl rfl
 have fr:∀{b:Addr},H0 b=none→del rc H0 b=none:=fun e=>by unfold del;split;rfl;exact e
 have ne:∀{b:Addr},H0 b=none→b≠rc:=fun e=>Ne.symm (aY h0 e)
 refine⟨fun b o e=>?_,k _ _ h.ins (ne h.fr.1),k _ _ h.regs (nl h.regs),⟨k _ _ h.dat.ins (nm h.dat.ins),k _ _ h.dat.cells (nl h.dat.cells)⟩,⟨k _ _ h.stk.ins (nm h.stk.ins),k _ _ h.stk.cells (nl h.stk.cells)⟩,?_,k _ _ h.ask (nl h.ask),Paired.ck h.rows fun _ _ ⟨z,e,q,n⟩=>⟨z,e,k _ _ q (nl q),n⟩,⟨fr h.fr.1,fr h.fr.2.1,fr h.fr.2.2.1,fr h.fr.2.2.2.1,fr h.fr.2.2.2.2⟩,h.ne⟩
 ·unfold del at e
  split at e
  ·cases e
  ·rename_i n
   exact k _ _ (h.same _ _ e) n
 ·unfold del
  rw[aa (nl (h.same _ _ h.kg))]
  exact h.kg
theorem JV (p:List Insn):∀(n:Nat) (r:RS),∃e,(ef p n r).ending=some e
 |0,r=>by
  unfold ef
  split
  ·exact⟨2,rfl⟩
  ·rename_i h
   cases e:r.ending with
   |none=>exact absurd e h
   |some z=>exact⟨z,rfl⟩
 |n+1,r=>by
  unfold ef
  split
  ·exact JV p n _
  ·rename_i h
   cases e:r.ending with
   |none=>exact absurd e h
   |some z=>exact⟨z,rfl⟩
def Xi (K:W.Frag) (B:bE):Sp:=fun vs H Q _=>∃(rc c tl dl hl:Addr) (R:RR) (most:Int) (data bw:List Int),vs=[.ref rc,.int most,.ref dl,.ref hl]∧fX B H c tl∧RecAt K B H rc c tl R∧H dl=some (.lst (data.map V.int))∧H hl=some (.lst (bw.map V.int))∧(data.length≤100000∧bw.length≤100000)∧
 (∀p,R.prog=some p→0≤most→most≤2000→iR data=true→gY bw=true→∃I,Bd p I∧I 0 (dW data bw)∧TO (ef p most.toNat (dW data bw)))∧jy K B H rc c tl (m6 R most data bw).1 (m6 R most data bw).2 Q
theorem JW {l:List Int} (h:iR l=true):l.length≤256∧AllB l:=by
 unfold iR at h
 split at h
 ·rename_i g
  exact⟨g,JN h⟩
 ·cases h
theorem Xj:aI ["self","most","data","helpers"] ["self","most","data","helpers"] (aG (inClass (top 168) 4)):=aM
theorem Xk (U:cF P w K mg A B):dQ P w K mg base 8 B.Dh ["self","most","data","helpers"] (Xi K B):=by
 have T:=U.t
 refine fH U.Ay Xj (fun _ _ _ _ _ _=>ln4 fun _ _ _ _=>by kernel_rfl) (fun _ _ _ _ h=>?_) (fun _ _ _ _ H vs Q E hr h=>?_)
 ·obtain⟨_,_,_,_,_,_,_,_,_,rfl,_⟩:=h
  rfl
 ·obtain⟨rc,c,tl,dl,hl,R,most,data,bw,rfl,d,hR,hdl,rR,hle,hj,k⟩:=h
  refine⟨_,au (aN (bY iH (br (pv 0) rfl) dO (bz _)) (ak (ay (bO (af (gM gO aj) ai)))) aP)<|
   au (aN (gK (gq (sM dD dD aj (pv 1) (aU T.zC)) (gq (bI (aE (WJ T) (hr.mono (by decide)) (af (pv 2) ai)) (fun _=>rfl)) (gI (bI (aE (WM T) (hr.mono (by decide)) (af (pv 3) ai)) (fun _=>rfl))))).pt) (ak (ay (bO (af (gM gO aj) ai)))) aP)<|
   au (bQ (pv 0) (aE (Wx U) (hr.mono (by decide)) (af (br (pv 0) rfl) (af (pv 1) (af (pv 2) (af (pv 3) ai))))) rfl)<|
   ak (ay (aE (WB U) (hr.mono (by decide)) (af (br (pv 0) rfl) ai))),?_⟩
  try dsimp only[aad]
  obtain⟨bC,vp,vj,vl,r1,rp,rj,rl⟩:=hR.ex
  refine⟨_,rfl,rc,_,bC,_,_,rfl,r1,U.cQ,U.mC,rfl,rfl,_,rfl,?_⟩
  cases ep:R.prog with
  |none=>
   rw[show m6 R most data bw=(R,[-1]) by unfold m6;rw[ep]]at k
   rw[ep]at rp
   cases(show vp= .aK from rp)
   refine cA ?_
   exact⟨_,rfl,cB,fun a ha=>k.new hR d (ah.refl _) ha⟩
  |some p=>
   rw[ep]at rp
   have rp:dg K (My.off rc c tl H) vp p:=rp
   have Er:vp≠ .aK:=by obtain⟨⟨a,_,_,_,_,_,_,e,_⟩,_⟩:=rp;rw[e];exact fun z=>nomatch z
   refine ao (fun z=>absurd (aZ z) Er) (fun _=>?_)
   have km:m6 R most data bw=if(0≤most∧most≤2000)∧iR data=true∧gY bw=true then
   ({R with last:=some ((ef p most.toNat (dW data bw)).regs,(ef p most.toNat (dW data bw)).stack)},rT (ef p most.toNat (dW data bw)))else(R,[-2]):=by unfold m6;rw[ep]
   rw[km]at k
   have no:¬((0≤most∧most≤2000)∧iR data=true∧gY bw=true)→∀H1,ah H H1→∀a,H1 a=none→Q (.ref a) (upd H1 a (.lst [.int (-2)])):=fun z H1 s1 a ha=>by
    rw[aa z]at k
    exact k.new hR d s1 ha
   refine⟨_,rfl,_,_,rfl,rfl,_,rfl,?_⟩
   refine ao (fun c1=>?_) (fun c1=>?_)
   rotate_left
   ·refine⟨_,rfl,ao (fun z=>nomatch z) fun _=>?_⟩
    refine cA ?_
    exact⟨_,rfl,cB,fun a ha=>no (fun z=>c1 (bq z.1.1)) _ (ah.refl _) a ha⟩
   have g1:=aZ c1
   refine⟨_,_,rfl,rfl,_,rfl,?_⟩
   refine ao (fun c2=>?_) (fun c2=>?_)
   rotate_left
   ·refine cA ?_
    exact⟨_,rfl,cB,fun a ha=>no (fun z=>c2 (bq z.1.2)) _ (ah.refl _) a ha⟩
   have g2:most≤2000:=aZ c2
   refine⟨_,rfl,dl,data,rfl,hdl,hle.1,fun H1 s1=>⟨_,rfl,?_⟩⟩
   refine ao (fun g3=>?_) (fun g3=>?_)
   rotate_left
   ·refine cA ?_
    exact⟨_,rfl,cB,fun a ha=>no (fun z=>g3 z.2.1) _ s1 a ha⟩
   refine⟨_,rfl,hl,bw,rfl,s1 _ _ rR,hle.2,fun H2 s2=>⟨_,rfl,?_⟩⟩
   have s2:=ah.trans s1 s2
   refine ao (fun c4=>?_) (fun c4=>?_)
   ·exact⟨_,rfl,cB,fun a ha=>no (fun z=>by rw[z.2.2]at c4;cases c4) _ s2 a ha⟩
   have g4:gY bw=true:=by
    cases e:gY bw with
    |true=>rfl
    |false=>exact absurd (by rw[e];rfl) c4
   rw[aPos ⟨⟨g1,g2⟩,g3,g4⟩]at k
   obtain⟨I,hI,hI0,hTO⟩:=hj p ep g1 g2 g3 g4
   have em:most=((most.toNat:Nat):Int):=by omega
   refine⟨_,rfl,rc,_,bC,_,_,rfl,s2 _ _ r1,U.cQ,U.mC,rfl,_,rfl,_,rfl,_,rfl,_,p,most.toNat,dl,hl,data,bw,I,by rw[←em];rfl,(rp.mono jx).mono s2,s2 _ _ hdl,s2 _ _ rR,⟨by omega,(JW g3).1⟩,hI,hI0,fun v H3 iC=>?_⟩
   obtain⟨L,us,ev,iC⟩:=iC
   have s3:=iC.same
   refine⟨_,rfl,rc,_,bC,_,rfl,s3 _ _ (s2 _ _ r1),U.cQ,U.kY,(by show 3<1000;decide),?_⟩
   have Xl:=iC.gG (Es:=vp) (Et:=vj) (Eu:=v) (s2 _ _ r1)
   obtain⟨en,hen⟩:=JV p most.toNat (dW data bw)
   refine⟨_,rfl,rc,_,bC,_,_,rfl,aH,U.cQ,U.kY,rfl,v,_,_,en,rfl,⟨L,us,ev,Xl⟩,hen,hTO,fun w H4 s4 hw rX=>?_⟩
   have hwr:w≠rc:=fun z=>by rw[z,aH]at hw;cases hw
   have s5:∀b o,H3 b=some o→b≠rc→H4 b=some o:=fun b o e hb=>s4 _ _ (by rw[aL hb];exact e)
   have rY:ah H H3:=ah.trans s2 s3
   obtain⟨Bg,ca,ci,hc1⟩:=d.bT
   obtain⟨Bh,ht1⟩:=d.lg
   have nf:∀{b:Addr},H2 b=none→∀{a:Addr} {o:HO},H a=some o→b≠a:=by
    intro b e a o ea
    exact Ne.symm (aY (s2 _ _ ea) e)
   have of:∀{b:Addr},H2 b=none→My.off rc c tl H3 b=H3 b:=fun e=>off_ne (nf e r1) (nf e hc1) (nf e ht1)
   have so:ah (My.off rc c tl H) (My.off rc c tl H3):=Be fun b o e _ _ _=>rY _ _ e
   refine k w _ (fun b o e hb=>s5 _ _ (rY _ _ e) hb) (En (H:=H3) (dx:=bC) (vp:=vp) (vj:=vj) (vl:=v) s5 (s4 _ _ aH) ?_ (rj.mono so) ?_) ?_ rX
   ·show PO K _ vp R.prog
    rw[ep]
    exact dg.mono rp so
   ·refine⟨L.a,L.dx,oq L.rl L.dm L.sm L.hl L.al (ef p most.toNat (dW data bw)).place (ef p most.toNat (dW data bw)).ending,L.rl,L.sm,L.gD,L.sc,8589934080,ev,?_,rfl,rfl,?_,?_,?_⟩
    ·rw[of iC.fr.1];exact iC.ins
    ·rw[of iC.fr.2.1];exact iC.regs
    ·rw[off_ne (lq iC.stk.ins (rY _ _ r1) (f:="base") rfl rfl) (lq iC.stk.ins (rY _ _ hc1) (f:="base") rfl rfl) (bF iC.stk.ins (rY _ _ ht1) (fun w=>by cases w))];exact iC.stk.ins
    ·rw[of iC.fr.2.2.2.1];exact iC.stk.cells
   ·rw[aL hwr]at hw
    exact ah.free rY hw
theorem iT {ns:List Int} {i:Nat} {x:Int} {t:List Int} (h:ns.drop i=x::t):i<ns.length∧ns.getD i 0=x∧ns.drop (i+1)=t:=by
 have hi:i<ns.length:=Decidable.byContradiction fun z=>by
  rw[List.drop_eq_nil_of_le (by omega)]at h
  cases h
 rw[List.drop_eq_getElem_cons hi]at h
 injection h with h1 h2
 refine⟨hi,?_,h2⟩
 rw[List.getD_eq_getElem?_getD,List.getElem?_eq_getElem hi]
 exact h1
theorem Ew {ns:List Int} {i:Nat} {l t:List Int} (h:ns.drop i=(l.length:Int)::(l++t)):i<ns.length∧ns.getD i 0=(l.length:Int)∧i+1+l.length≤ns.length∧(ns.drop (i+1)).take l.length=l∧ns.drop (i+1+l.length)=t:=by
 obtain⟨h1,h2,h3⟩:=iT h
 have e:=congrArg List.length h3
 rw[List.length_drop,List.length_append]at e
 refine⟨h1,h2,by omega,by rw[h3,List.take_left']<;>rfl,?_⟩
 rw[←List.drop_drop,h3,List.drop_left']<;>rfl
structure jz (K:W.Frag) (B:bE) (rc c tl dx a:Addr) (ns:List Int) (H:Hp) (i:Nat) (R:RR):Prop where
 bT:H c=some (.ins B.b8 dx (cV a (i:Int)))
 num:aJ K H a (ns.map V.int)
 lg:∃l:List Int,H tl=some (.lst (l.map V.int))
 gG:RecAt K B H rc c tl R
def Ex (K:W.Frag) (B:bE) (rc c tl dx a:Addr) (ns t:List Int) (H:Hp) (R':RR) (fY:List Int) (Q:VK):Prop:=∀w H' (i':Nat),(∀b o,H b=some o→b≠rc→b≠c→H' b=some o)→H' c=some (.ins B.b8 dx (cV a (i':Int)))→ns.drop i'=t→RecAt K B H' rc c tl R'→H w=none→H' w=some (.lst (fY.map V.int))→Q (.ref w) H'
section
variable {rc c tl dx a:Addr} {ns t:List Int} {H H':Hp} {i i':Nat} {R R':RR} {fY:List Int} {Q:VK}
theorem jz.m7 (L:jz K B rc c tl dx a ns H i R):fX B H c tl:=⟨⟨dx,a,_,L.bT⟩,L.lg⟩
theorem jz.move (L:jz K B rc c tl dx a ns H i R) (b:fq c H H') (e:H' c=some (.ins B.b8 dx (cV a (i':Int)))):jz K B rc c tl dx a ns H' i' R:=by
 have n:=L.gG.ne L.m7
 obtain⟨l,hl⟩:=L.lg
 refine⟨e,?_,⟨l,b _ _ hl (Ne.symm n.2.2)⟩,L.gG.grow (fun b' o e x _=>b _ _ e x) n.1 n.2.1⟩
 rcases L.num with(z|⟨o,z⟩)|z
 ·exact .inl (.inl (b _ _ z (bF z L.bT (fun w=>by cases w))))
 ·exact .inl (.inr ⟨o,b _ _ z (bF z L.bT (fun w=>by cases w))⟩)
 ·exact .inr z
theorem jz.take (L:jz K B rc c tl dx a ns H i R):jz K B rc c tl dx a ns (upd H c (.ins B.b8 dx (cV a ((i+1:Nat):Int)))) (i+1) R:=
 L.move (fun b o e n=>by rw[aL n];exact e) aH
theorem fq.trans {p:Addr} {H1 H2 H3:Hp} (a:fq p H1 H2) (b:fq p H2 H3):fq p H1 H3:=fun x o e n=>b _ _ (a _ _ e n) n
theorem kC {p:Addr} {o:HO}:fq p H (upd H p o):=fun b o e n=>by rw[aL n];exact e
theorem Ex.go (k:Ex K B rc c tl dx a ns t H R' fY Q) (L:jz K B rc c tl dx a ns H' i R) (b:fq c H H') (e:ns.drop i=t):jy K B H' rc c tl R' fY Q:=fun w H2 s r hw rX=>by
 have n:=L.gG.ne L.m7
 refine k w H2 i (fun x o ex n1 n2=>s _ _ (b _ _ ex n2) n1) (s _ _ L.bT (Ne.symm n.1)) e r ?_ rX
 cases eo:H w with
 |none=>rfl
 |some o=>
  have nc:w≠c:=fun z=>by rw[z,L.bT]at hw;cases hw
  rw[b _ _ eo nc]at hw
  cases hw
end
def Xm (K:W.Frag) (B:bE):Sp:=fun vs H Q _=>∃(rc c tl dx a:Addr) (ns t:List Int) (i:Nat) (R:RR) (cl:Path.Call),vs=[.ref rc,.ref c]∧jz K B rc c tl dx a ns H i R∧ns.drop i=ku cl++t∧Pre R cl∧Ex K B rc c tl dx a ns t H (dB R cl).1 (dB R cl).2 Q
theorem uY:aI ["record","calls","number","place","most","data"] ["record","calls"] (aG (top 173)):=aM
theorem Xn (U:cF P w K mg A B):Callee P w K mg base 11 "answer_of" ["record","calls"] (Xm K B):=by
 have T:=U.t
 refine aT T.zp uY (fun _ _ _ _ _ _=>ln2 fun _ _=>by kernel_rfl) (fun _ _ _ _ h=>?_) (fun _ _ _ _ s H vs Q E hr h=>?_)
 ·obtain⟨_,_,_,_,_,_,_,_,_,_,rfl,_⟩:=h
  rfl
 ·obtain⟨rc,c,tl,dx,a,ns,t,i,R,cl,rfl,L,hd,hp,k⟩:=h
  refine⟨_,au (bg (i:=2) uY.nd rfl (Or.inl rfl) (jk U.dN U.kX (qf U) (hr.mono (by decide)) (pv 1)))<|
   au (aN (aX (aO (pv 2) aj)) (ak (ay (jj U.cQ U.As (W4 U) (hr.mono (by decide)) (pv 0) (af (jk U.dN U.rD (Ek U) (hr.mono (by decide)) (pv 1)) ai)))) aP)<|
   au (aN (aX (aO (pv 2) aj)) (ak (ay (jj U.cQ U.Av (W9 U) (hr.mono (by decide)) (pv 0) (af (jk U.dN U.kX (qf U) (hr.mono (by decide)) (pv 1)) ai)))) aP)<|
   au (aN (aX (aO (pv 2) aj)) (au (bg (i:=3) uY.nd rfl (Or.inl rfl) (jk U.dN U.kX (qf U) (hr.mono (by decide)) (pv 1)))<|ak (ay (jj U.cQ U.Ax (Xc U) (hr.mono (by decide)) (pv 0) (af (pv 3) (af (jk U.dN U.kX (qf U) (hr.mono (by decide)) (pv 1)) ai))))) aP)<|
   au (aN (aX (aO (pv 2) aj)) (au (bg (i:=4) uY.nd rfl (Or.inl rfl) (jk U.dN U.kX (qf U) (hr.mono (by decide)) (pv 1)))<|au (bg (i:=5) uY.nd rfl (Or.inl rfl) (jk U.dN U.rD (Ek U) (hr.mono (by decide)) (pv 1)))<|
    ak (ay (jj U.cQ U.Az (Xk U) (hr.mono (by decide)) (pv 0) (af (pv 4) (af (pv 5) (af (jk U.dN U.rD (Ek U) (hr.mono (by decide)) (pv 1)) ai)))))) aP)<|
   au (aN (aX (aO (pv 2) aj)) (ak (ay (jj U.cQ U.AB (Xf U) (hr.mono (by decide)) (pv 0) (af (jk U.dN U.kX (qf U) (hr.mono (by decide)) (pv 1)) ai)))) aP)<|
   au (aN (aX (aO (pv 2) aj)) (ak (ay (jk U.cQ U.AE (Xh U) (hr.mono (by decide)) (pv 0)))) aP)<|Mf,?_⟩
  try dsimp only[aad]
  obtain⟨bC,vp,vj,vl,r1,_⟩:=L.gG.ex
  have rZ:∀{H':Hp} {i':Nat} (_:jz K B rc c tl dx a ns H' i' R),∃bC vp vj vl,H' rc=some (.ins B.dR bC (iS vp vj vl)):=fun L=>by
   obtain⟨bC,vp,vj,vl,r1,_⟩:=L.gG.ex
   exact⟨bC,vp,vj,vl,r1⟩
  cases cl with
  |load l=>
   obtain⟨h1,h2,h3⟩:=iT hd
   obtain⟨g1,g2,g3,g4,g5⟩:=Ew h3
   refine⟨_,rfl,c,dx,_,rfl,L.bT,rfl,c,dx,a,ns,i,rfl,L.bT,L.num,h1,?_⟩
   rw[h2]
   have L1:=L.take
   have b1:fq c H (upd H c (.ins B.b8 dx (cV a ((i+1:Nat):Int)))):=kC
   generalize (upd H c (.ins B.b8 dx (cV a ((i+1:Nat):Int))))=H1 at L1 b1
   obtain⟨bC,vp,vj,vl,r1⟩:=rZ L1
   refine⟨_,rfl,_,_,rfl,rfl,_,rfl,cA ?_⟩
   refine⟨_,rfl,rc,bC,_,rfl,r1,rfl,_,rfl,c,dx,_,rfl,L1.bT,rfl,c,dx,a,ns,i+1,l.length,rfl,L1.bT,L1.num,g1,g2,g3,fun q H2 b2 hq e2 eq=>?_⟩
   rw[g4]at eq
   have L2:=L1.move b2 e2
   exact⟨rc,c,tl,q,R,l,rfl,L2.m7,L2.gG,eq,hp,k.go L2 (b1.trans b2) g5⟩
  |judge n=>
   obtain⟨h1,h2,h3⟩:=iT hd
   obtain⟨g1,g2,g3⟩:=iT h3
   refine⟨_,rfl,c,dx,_,rfl,L.bT,rfl,c,dx,a,ns,i,rfl,L.bT,L.num,h1,?_⟩
   rw[h2]
   have L1:=L.take
   have b1:fq c H (upd H c (.ins B.b8 dx (cV a ((i+1:Nat):Int)))):=kC
   generalize (upd H c (.ins B.b8 dx (cV a ((i+1:Nat):Int))))=H1 at L1 b1
   obtain⟨bC,vp,vj,vl,r1⟩:=rZ L1
   refine⟨_,rfl,_,_,rfl,rfl,_,rfl,ao (fun z=>nomatch (aZ z)) fun _=>?_⟩
   refine⟨_,rfl,_,_,rfl,rfl,_,rfl,cA ?_⟩
   refine⟨_,rfl,rc,bC,_,rfl,r1,rfl,_,rfl,c,dx,_,rfl,L1.bT,rfl,c,dx,a,ns,i+1,rfl,L1.bT,L1.num,g1,?_⟩
   rw[g2]
   exact⟨rc,c,tl,R,n,rfl,L1.take.m7,L1.take.gG,hp,k.go L1.take (b1.trans kC) g3⟩
  |range p s=>
   obtain⟨h1,h2,h3⟩:=iT hd
   obtain⟨g1,g2,g3⟩:=iT h3
   obtain⟨f1,f2,f3⟩:=iT g3
   refine⟨_,rfl,c,dx,_,rfl,L.bT,rfl,c,dx,a,ns,i,rfl,L.bT,L.num,h1,?_⟩
   rw[h2]
   have L1:=L.take
   have b1:fq c H (upd H c (.ins B.b8 dx (cV a ((i+1:Nat):Int)))):=kC
   generalize (upd H c (.ins B.b8 dx (cV a ((i+1:Nat):Int))))=H1 at L1 b1
   refine⟨_,rfl,_,_,rfl,rfl,_,rfl,ao (fun z=>nomatch (aZ z)) fun _=>?_⟩
   refine⟨_,rfl,_,_,rfl,rfl,_,rfl,ao (fun z=>nomatch (aZ z)) fun _=>?_⟩
   refine⟨_,rfl,_,_,rfl,rfl,_,rfl,cA ?_⟩
   refine⟨_,rfl,c,dx,_,rfl,L1.bT,rfl,c,dx,a,ns,i+1,rfl,L1.bT,L1.num,g1,?_⟩
   rw[g2]
   have L2:=L1.take
   have b2:=b1.trans (kC (o:= .ins B.b8 dx (cV a ((i+1+1:Nat):Int))))
   generalize (upd H1 c (.ins B.b8 dx (cV a ((i+1+1:Nat):Int))))=H2 at L2 b2
   obtain⟨bC,vp,vj,vl,r1⟩:=rZ L2
   refine⟨_,rfl,rc,bC,_,rfl,r1,rfl,_,rfl,_,rfl,c,dx,_,rfl,L2.bT,rfl,c,dx,a,ns,i+1+1,rfl,L2.bT,L2.num,f1,?_⟩
   rw[f2]
   exact⟨rc,c,tl,R,p,s,rfl,L2.take.m7,L2.take.gG,hp,k.go L2.take (b2.trans kC) f3⟩
  |run n d h=>
   obtain⟨h1,h2,h3⟩:=iT hd
   obtain⟨g1,g2,g3⟩:=iT h3
   have g3:ns.drop (i+1+1)=(d.length:Int)::(d++((h.length:Int)::(h++t))):=by
    rw[g3]
    show(d.length:Int)::((d++(h.length:Int)::h)++t)=_
    rw[List.append_assoc]
    rfl
   obtain⟨f1,f2,f3,f4,f5⟩:=Ew g3
   obtain⟨e1,e2,e3,e4,e5⟩:=Ew f5
   refine⟨_,rfl,c,dx,_,rfl,L.bT,rfl,c,dx,a,ns,i,rfl,L.bT,L.num,h1,?_⟩
   rw[h2]
   have L1:=L.take
   have b1:fq c H (upd H c (.ins B.b8 dx (cV a ((i+1:Nat):Int)))):=kC
   generalize (upd H c (.ins B.b8 dx (cV a ((i+1:Nat):Int))))=H1 at L1 b1
   refine⟨_,rfl,_,_,rfl,rfl,_,rfl,ao (fun z=>nomatch (aZ z)) fun _=>?_⟩
   refine⟨_,rfl,_,_,rfl,rfl,_,rfl,ao (fun z=>nomatch (aZ z)) fun _=>?_⟩
   refine⟨_,rfl,_,_,rfl,rfl,_,rfl,ao (fun z=>nomatch (aZ z)) fun _=>?_⟩
   refine⟨_,rfl,_,_,rfl,rfl,_,rfl,cA ?_⟩
   refine⟨_,rfl,c,dx,_,rfl,L1.bT,rfl,c,dx,a,ns,i+1,rfl,L1.bT,L1.num,g1,?_⟩
   rw[g2]
   have L2:=L1.take
   have b2:=b1.trans (kC (o:= .ins B.b8 dx (cV a ((i+1+1:Nat):Int))))
   generalize (upd H1 c (.ins B.b8 dx (cV a ((i+1+1:Nat):Int))))=H2 at L2 b2
   refine⟨_,rfl,c,dx,_,rfl,L2.bT,rfl,c,dx,a,ns,i+1+1,d.length,rfl,L2.bT,L2.num,f1,f2,f3,fun q H3 b3 hq c3 eq=>?_⟩
   rw[f4]at eq
   have L3:=L2.move b3 c3
   obtain⟨bC,vp,vj,vl,r1⟩:=rZ L3
   refine⟨_,rfl,rc,bC,_,rfl,r1,rfl,_,rfl,_,rfl,_,rfl,c,dx,_,rfl,L3.bT,rfl,c,dx,a,ns,i+1+1+1+d.length,h.length,rfl,L3.bT,L3.num,e1,e2,e3,fun q2 H4 b4 hq2 c4 eq2=>?_⟩
   rw[e4]at eq2
   have L4:=L3.move b4 c4
   exact⟨rc,c,tl,q,q2,R,n,d,h,rfl,L4.m7,L4.gG,b4 _ _ eq (bF eq L3.bT (fun w=>by cases w)),eq2,hp.1,hp.2,k.go L4 ((b2.trans b3).trans b4) e5⟩
  |reg n=>
   obtain⟨h1,h2,h3⟩:=iT hd
   obtain⟨g1,g2,g3⟩:=iT h3
   refine⟨_,rfl,c,dx,_,rfl,L.bT,rfl,c,dx,a,ns,i,rfl,L.bT,L.num,h1,?_⟩
   rw[h2]
   have L1:=L.take
   have b1:fq c H (upd H c (.ins B.b8 dx (cV a ((i+1:Nat):Int)))):=kC
   generalize (upd H c (.ins B.b8 dx (cV a ((i+1:Nat):Int))))=H1 at L1 b1
   obtain⟨bC,vp,vj,vl,r1⟩:=rZ L1
   refine⟨_,rfl,_,_,rfl,rfl,_,rfl,ao (fun z=>nomatch (aZ z)) fun _=>?_⟩
   refine⟨_,rfl,_,_,rfl,rfl,_,rfl,ao (fun z=>nomatch (aZ z)) fun _=>?_⟩
   refine⟨_,rfl,_,_,rfl,rfl,_,rfl,ao (fun z=>nomatch (aZ z)) fun _=>?_⟩
   refine⟨_,rfl,_,_,rfl,rfl,_,rfl,ao (fun z=>nomatch (aZ z)) fun _=>?_⟩
   refine⟨_,rfl,_,_,rfl,rfl,_,rfl,cA ?_⟩
   refine⟨_,rfl,rc,bC,_,rfl,r1,rfl,_,rfl,c,dx,_,rfl,L1.bT,rfl,c,dx,a,ns,i+1,rfl,L1.bT,L1.num,g1,?_⟩
   rw[g2]
   exact⟨rc,c,tl,R,n,rfl,L1.take.m7,L1.take.gG,hp,k.go L1.take (b1.trans kC) g3⟩
  |stack=>
   obtain⟨h1,h2,h3⟩:=iT hd
   refine⟨_,rfl,c,dx,_,rfl,L.bT,rfl,c,dx,a,ns,i,rfl,L.bT,L.num,h1,?_⟩
   rw[h2]
   have L1:=L.take
   have b1:fq c H (upd H c (.ins B.b8 dx (cV a ((i+1:Nat):Int)))):=kC
   generalize (upd H c (.ins B.b8 dx (cV a ((i+1:Nat):Int))))=H1 at L1 b1
   obtain⟨bC,vp,vj,vl,r1⟩:=rZ L1
   refine⟨_,rfl,_,_,rfl,rfl,_,rfl,ao (fun z=>nomatch (aZ z)) fun _=>?_⟩
   refine⟨_,rfl,_,_,rfl,rfl,_,rfl,ao (fun z=>nomatch (aZ z)) fun _=>?_⟩
   refine⟨_,rfl,_,_,rfl,rfl,_,rfl,ao (fun z=>nomatch (aZ z)) fun _=>?_⟩
   refine⟨_,rfl,_,_,rfl,rfl,_,rfl,ao (fun z=>nomatch (aZ z)) fun _=>?_⟩
   refine⟨_,rfl,_,_,rfl,rfl,_,rfl,ao (fun z=>nomatch (aZ z)) fun _=>?_⟩
   refine⟨_,rfl,_,_,rfl,rfl,_,rfl,cA ?_⟩
   exact⟨_,rfl,rc,bC,_,rfl,r1,rfl,rc,c,tl,R,rfl,L1.m7,L1.gG,hp,k.go L1 b1 h3⟩
theorem Xo (c:Path.Call):∃x l,ku c=x::l:=by
 cases c<;>exact⟨_,_,rfl⟩
theorem uZ:aI ["calls","record","line","told","answer"] ["calls"] (aG (top 174)):=aM
theorem Xp {x:Str} {st:Stmt} {N ps:List Str} {k:Nat} {sp:Sp} (D:Def K mg x st) (S:aI N ps (aG st))
  (hb:∀(kV doc pm:Value) (an:Option Addr) (cdv ct:Value) (us:List Value),us.length=ps.length→bindArgs (W.fnOf x x (nD st) (jd st) (aG st) .none kV doc pm an cdv ct) ⟨us,[]⟩=pure (ps.zip us))
  (len:∀vs H Q E,sp vs H Q E→vs.length=ps.length)
  (hbody:∀(base:Heap) (f:Addr) (cdv:Value) (A:Around) (outer:List Env) (s:Shared) (H:Hp) (vs:List V) (Q:VK) (E:XK),cD k (A.deeper (envOfC x (aG st) s.heap.objs.size f cdv))→sp vs H Q E→
   ∃t,gc (lN gS P w K mg base N x (aG st) f cdv A outer s H E).oU (jd st) t∧t {nx:=fun _ H'=>Q .aK H',rt:=Q} (start N vs) H):
  ∃(f:Addr) (fd:FuncData),mg x=some (.ref f)∧(∀(s:Shared) (us:List Value),us.length=ps.length→BindsTo s fd ⟨us,[]⟩ (ps.zip us))∧∀base,dF P w K mg base gS (k+1) f fd ps sp:=by
 obtain⟨f,fd,hm,F⟩:=D.ex
 refine⟨f,fd,hm,fun s us hu=>?_,fun base=>F.ok S len (hbody base f)⟩
 obtain⟨oc,od,kV,doc,pm,an,cdv,ct,osl,rfl,lk,hcd⟩:=F.ex
 exact .of_eq (hb kV doc pm an cdv ct us hu)
theorem Xq (U:cF P w K mg A B):∃(f:Addr) (fd:FuncData),mg "answers"=some (.ref f)∧(∀(s:Shared) (us:List Value),us.length=["calls"].length→BindsTo s fd ⟨us,[]⟩ ((["calls"]:List Str).zip us))∧∀base,dF P w K mg base gS 12 f fd ["calls"] (Bj K B):=by
 have T:=U.t
 refine Xp T.zq uZ (fun _ _ _ _ _ _=>Z9 fun _=>by kernel_rfl) (fun _ _ _ _ h=>?_) (fun base _ _ _ _ s H vs Q E hr h=>?_)
 ·obtain⟨_,_,_,_,rfl,_⟩:=h
  rfl
 ·obtain⟨a,ns,cs,J,rfl,ha,ens,hcs,Xr,hJ,k⟩:=h
  refine⟨_,au (bg (i:=1) uZ.nd rfl (Or.inl rfl) (OE U.Aq (W2 U) (hr.mono (by decide)) U.OL))<|
   au (bg (i:=2) uZ.nd rfl (Or.inl rfl) (pN U.Aj (WR U) (hr.mono (by decide)) U.OJ (af (pv 0) ai)))<|
   au (bg (i:=3) uZ.nd rfl (Or.inl rfl) (bO ai))<|
   au (FI PassesOwn.never (bI (jk U.dN U.Al (WU U) (hr.mono (by decide)) (pv 2)) (fun _=>rfl))
    (au (bg (i:=4) uZ.nd rfl (Or.inl rfl) (aE (Xn U) (hr.mono (by decide)) (af (pv 1) (af (pv 2) ai))))<|
     au (jH (tw PySem.F.plainAttrs_list PySem.F.slot_list_append PySem.F.type_list_append Co (pv 3) (af (bZ eO (by rfl) T.d8 boot_len (af (pv 4) ai)) ai)))<|
     ak (jH (tw PySem.F.plainAttrs_list PySem.F.slot_list_extend PySem.F.type_list_extend Gs (pv 3) (af (pv 4) ai)))))<|
   ak (ay (pv 3)),?_⟩
  try dsimp only[aad]
  refine fun rc bC rW Xs hne=>?_
  have s0:ah H (upd (upd H bC (.own rc)) rc (.ins B.dR bC [])):=fun b o e=>by rw[aL (aY e rW),aL (aY e Xs)];exact e
  refine⟨rc,bC,rfl,aH,fun H1 b1 e1=>⟨rfl,?_⟩⟩
  have s1:ah H H1:=fun b o e=>b1 _ _ (s0 _ _ e) (aY e rW)
  refine⟨_,rfl,fun c dx hc hdx Jh=>?_⟩
  have s2:ah H1 (upd (upd H1 dx (.own c)) c (.ins B.b8 dx [])):=fun b o e=>by rw[aL (aY e hc),aL (aY e hdx)];exact e
  refine⟨c,dx,a,rfl,aH,fun H2 b2 e2=>⟨rfl,?_⟩⟩
  have s3:ah H1 H2:=fun b o e=>b2 _ _ (s2 _ _ e) (aY e hc)
  have hc0:H c=none:=ah.free s1 hc
  refine⟨(by decide),fun tl JX=>?_⟩
  have s4:ah H2 (upd H2 tl (.lst [])):=ah.new JX
  have Xu:H tl=none:=ah.free (ah.trans s1 s3) JX
  have JY:=s4 _ _ (s3 _ _ e1)
  have JZ:=s4 _ _ e2
  have s5:ah H (upd H2 tl (.lst [])):=ah.trans s1 (ah.trans s3 s4)
  have e3:(upd H2 tl (.lst [])) tl=some (.lst (([]:List Int).map V.int)):=aH
  generalize upd H2 tl (.lst [])=H3 at JY JZ e3 s5
  refine⟨fun m σ H'=>∃(iU:List Path.Call) (R:RR) (i:Nat) (l:List Int) (v4:Option V),σ=[some (.ref a),some (.ref rc),some (.ref c),some (.ref tl),v4]∧m=iU.length∧ah H H'∧H' c=some (.ins B.b8 dx (cV a (i:Int)))∧ns.drop i=iU.flatMap ku∧RecAt K B H' rc c tl R∧J R∧H' tl=some (.lst (l.map V.int))∧l++lA R iU=lA r6 cs∧l.length+14301*iU.length≤14301*400∧(∀x∈iU,x∈cs),
   ⟨_,cs,r6,0,[],none,rfl,rfl,s5,JZ,?_,⟨bC,.aK,.aK,.aK,JY,rfl,rfl,rfl⟩,Xr,e3,rfl,?_,fun _ h=>h⟩,?_⟩
  ·rw[ens];rfl
  ·show 0+_≤_
   lia
  rintro m σ H' ⟨iU,R,i,l,v4,rfl,rfl,sm,hcl,hdr,hR,Xv,Bk,hpl,hlen,hsub⟩
  have ha':aJ K H' a (ns.map V.int):=by
   rcases ha with(z|⟨o,z⟩)|z
   ·exact .inl (.inl (sm _ _ z))
   ·exact .inl (.inr ⟨o,sm _ _ z⟩)
   ·exact .inr z
  refine⟨_,rfl,c,dx,_,rfl,hcl,rfl,c,dx,a,ns,i,rfl,hcl,ha',_,rfl,?_⟩
  cases iU with
  |nil=>
   have hi:¬i<ns.length:=fun z=>by
    have:=congrArg List.length hdr
    rw[List.length_drop]at this
    have e0:(([]:List Path.Call).flatMap ku).length=0:=rfl
    lia
   refine ao (fun z=>absurd (aZ z) hi) fun _=>?_
   refine⟨_,rfl,k tl _ sm ?_⟩
   rw[←hpl]
   show H' tl=some (.lst ((l++[]).map V.int))
   rw[List.append_nil]
   exact Bk
  |cons cl u6=>
   have hi:i<ns.length:=by
    obtain⟨x,y,e⟩:=Xo cl
    rw[List.flatMap_cons,e]at hdr
    exact(iT hdr).1
   refine ao (fun _=>?_) (fun z=>absurd (bq hi) z)
   obtain⟨p1,p2,p3⟩:=hJ R cl Xv (hsub cl List.mem_cons_self)
   have hl2:l.length+14301*(u6.length+1)≤14301*400:=hlen
   refine⟨fun σ' H2=>∃m',m'<u6.length+1∧∃(iU:List Path.Call) (R:RR) (i:Nat) (l:List Int) (v4:Option V),σ'=[some (.ref a),some (.ref rc),some (.ref c),some (.ref tl),v4]∧m'=iU.length∧ah H H2∧H2 c=some (.ins B.b8 dx (cV a (i:Int)))∧ns.drop i=iU.flatMap ku∧RecAt K B H2 rc c tl R∧J R∧H2 tl=some (.lst (l.map V.int))∧l++lA R iU=lA r6 cs∧l.length+14301*iU.length≤14301*400∧(∀x∈iU,x∈cs),
    fun σ' H2 z=>z,?_⟩
   have L:jz K B rc c tl dx a ns H' i R:=⟨hcl,ha',⟨l,Bk⟩,hR⟩
   have ne:=hR.ne L.m7
   refine⟨_,rfl,_,rfl,rc,c,tl,dx,a,ns,u6.flatMap ku,i,R,cl,rfl,L,by rw[hdr,List.flatMap_cons],p1,fun w H4 i' s6 hc4 Xw Xx hw rX=>?_⟩
   have Ey:w≠tl:=fun z=>by rw[z,Bk]at hw;cases hw
   have J2:H4 tl=some (.lst (l.map V.int)):=s6 _ _ Bk (Ne.symm ne.2.1) (Ne.symm ne.2.2)
   have Xy:ah H H4:=fun b o e=>s6 _ _ (sm _ _ e) (aY e rW) (aY e hc0)
   refine⟨_,rfl,.inl ⟨rfl,_,aJ.of J2⟩,_,rfl,_,_,rfl,Or.inl (aJ.of rX),tl,_,_,rfl,rfl,J2,?_,?_⟩
   ·rw[List.length_map]
    exact Nat.lt_of_le_of_lt (show l.length≤14301*400 by lia) (by decide)
   rw[List.length_map]
   refine⟨_,rfl,.inl ⟨rfl,_,aJ.of aH⟩,_,rfl,tl,w,_,_,rfl,rfl,aH,(by rw[aL Ey];exact rX),?_,?_⟩
   ·rw[List.length_append,List.length_map,List.length_map]
    exact Nat.le_trans (show l.length+1+_≤14301*400 by lia) (by decide)
   rw[dj]
   have et:(l.map V.int++[V.int ((dB R cl).2.length:Int)])++(dB R cl).2.map V.int=(l++((dB R cl).2.length:Int)::(dB R cl).2).map V.int:=by
    rw[List.map_append,List.append_assoc]
    rfl
   rw[et]
   refine⟨u6.length,Nat.lt_succ_self _,u6,(dB R cl).1,i',l++((dB R cl).2.length:Int)::(dB R cl).2,_,rfl,rfl,fun b o e=>?_,?_,Xw,Xx.grow (fun b o e _ n=>by rw[aL n];exact e) ne.1 ne.2.1,p2,aH,?_,?_,fun x hx=>hsub x (List.mem_cons_of_mem _ hx)⟩
   ·rw[aL (aY e Xu)]
    exact Xy _ _ e
   ·rw[aL ne.2.2]
    exact hc4
   ·rw[←hpl,List.append_assoc]
    rfl
   ·rw[List.length_append,List.length_cons]
    lia
theorem aac {P:Program} {w:World} {K:W.Frag} {mg:Str→Option Value} {A:jL} {B:bE} (U:cF P w K mg A B):∃(f:Addr) (fd:FuncData),mg "answers"=some (.ref f)∧(∀(s:Shared) (us:List Value),us.length=["calls"].length→BindsTo s fd ⟨us,[]⟩ ((["calls"]:List Str).zip us))∧∀base,dF P w K mg base gS 12 f fd ["calls"] (Bj K B):=
 Classical.choose_spec aab (by with_unfolding_all exact fun U=>Xq U) ⟨P,w,K,mg,A,B⟩ U
end My
namespace My
open PySem PySem.Spec PyProof.Rows L2
open PySem.W (Frag)
open Path (Insn bitsOf State_ numbers inBits Range_ beginsFrom askTold littleOf helpersIn Bytes)
variable {P:Program} {w:World} {K:W.Frag} {mg:Str→Option Value} {base:Heap} {A:jL} {B:bE}
theorem fZ (w:Nat):((2^w:Nat):Int)=(2:Int)^w:=by
 rw[Int.natCast_pow];rfl
theorem qh (w:Nat) (z:Int):((inBits w z:Nat):Int)=z%2^w:=by
 unfold inBits
 rw[fZ,Int.toNat_of_nonneg (Int.emod_nonneg _ (by have:(0:Int)<2^w:=Int.pow_pos (by decide);lia))]
theorem Ez (w n:Nat):inBits w (n:Int)=n%2^w:=by
 have h:=qh w n
 rw[←fZ]at h
 exact_mod_cast h
theorem kD (w:Nat) (z:Int):inBits w z<2^w:=by
 have h:=qh w z
 have p:(0:Int)<2^w:=Int.pow_pos (by decide)
 have:=Int.emod_lt_of_pos z p
 rw[←h,←fZ]at this
 exact_mod_cast this
theorem r8 (a b:Nat):Builtin.bitOr (a:Int) (b:Int)=((a|||b:Nat):Int):=by
 unfold Builtin.bitOr Builtin.bitAnd Builtin.bitNot
 rw[decide_eq_false (by lia:¬(0:Int)≤ -(a:Int)-1),decide_eq_false (by lia:¬(0:Int)≤ -(b:Int)-1)]
 show -(-(((((-(-(a:Int)-1)-1)).toNat|||((-(-(b:Int)-1)-1)).toNat:Nat):Int))-1)-1=_
 rw[show(-(-(a:Int)-1)-1)=(a:Int) by lia,show(-(-(b:Int)-1)-1)=(b:Int) by lia]
 show -(-((a|||b:Nat):Int)-1)-1=_
 lia
theorem Bl (a b:Nat):Builtin.bitAnd (a:Int) (b:Int)=((a&&& b:Nat):Int):=by
 unfold Builtin.bitAnd
 rw[bq (by lia:(0:Int)≤(a:Int)),bq (by lia:(0:Int)≤(b:Int))]
 rfl
theorem Xz:∀a b:Nat,a|||b=(a ^^^ b)+(a&&& b):=by
 intro a
 induction a using Nat.strongRecOn with
 |ind a ih=>
  intro b
  by_cases h0:a=0
  ·subst h0;simp
  ·have i:=ih (a/2) (by lia) (b/2)
   have e1:(a|||b)/2=(a/2)|||(b/2):=by simpa[Nat.shiftRight_eq_div_pow] using Nat.shiftRight_or_distrib (a:=a) (b:=b) (i:=1)
   have e2:(a ^^^ b)/2=(a/2) ^^^ (b/2):=by simpa[Nat.shiftRight_eq_div_pow] using Nat.shiftRight_xor_distrib (a:=a) (b:=b) (i:=1)
   have e3:(a&&& b)/2=(a/2)&&& (b/2):=by simpa[Nat.shiftRight_eq_div_pow] using Nat.shiftRight_and_distrib (a:=a) (b:=b) (i:=1)
   have f1:(a|||b)%2=(a%2)|||(b%2):=by simpa using Nat.or_mod_two_pow (a:=a) (b:=b) (n:=1)
   have f2:(a ^^^ b)%2=(a%2) ^^^ (b%2):=by simpa using Nat.xor_mod_two_pow (a:=a) (b:=b) (n:=1)
   have f3:(a&&& b)%2=(a%2)&&& (b%2):=by simpa using Nat.and_mod_two_pow (a:=a) (b:=b) (n:=1)
   have g:(a|||b)%2=(a ^^^ b)%2+(a&&& b)%2:=by
    rw[f1,f2,f3]
    rcases Nat.mod_two_eq_zero_or_one a with x|x<;>rcases Nat.mod_two_eq_zero_or_one b with y|y<;>rw[x,y]<;>rfl
   lia
theorem J5 (a b:Nat):Builtin.bitXor (a:Int) (b:Int)=((a ^^^ b:Nat):Int):=by
 unfold Builtin.bitXor
 rw[r8,Bl,Xz]
 lia
theorem XA (w:Nat):bJ (w:Int)=2^w-1:=by
 unfold bJ
 rw[Int.toNat_natCast,Int.one_mul]
theorem gH (z:Int) (w:Nat):Builtin.bitAnd z (bJ (w:Int))=((inBits w z:Nat):Int):=by rw[HZ,qh]
theorem jA (n w:Nat):Builtin.bitAnd (n:Int) (bJ (w:Int))=((n%2^w:Nat):Int):=by rw[gH,Ez]
theorem kE (n w:Nat) (hw:0<w):bB (n:Int) (w:Int)=Path.sgn w n:=uv w n hw
theorem EA (w n:Nat) (k:Nat) (h:w≤k):Path.sgn w (n%2^k)=Path.sgn w n:=by
 unfold Path.sgn
 rw[Nat.mod_mod_of_dvd _ (Nat.pow_dvd_pow 2 h)]
def W (i:Insn):Nat:=bitsOf i
theorem XC (a x:Int):kO (V.int a) (V.int x)=decide (a=x):=by
 show(a==x)=_
 exact Bool.eq_iff_iff.mpr (by simp)
theorem lB (x:V):c7 x []=false:=rfl
theorem kF (x a:Int) (l:List V):c7 (V.int x) (V.int a::l)=(decide (a=x)||c7 (V.int x) l):=by
 show(kO (V.int a) (V.int x)||c7 (V.int x) l)=_
 rw[XC]
theorem qi (i:Insn):cM i=((bitsOf i:Nat):Int):=by
 unfold cM bitsOf
 rw[kF,kF,lB]
 by_cases h:i.cls=7∨i.cls=5
 ·rw[aPos h,aPos]
  ·rfl
  ·rcases h with h|h<;>rw[h]<;>rfl
 ·rw[aa h,aa]
  ·rfl
  ·simp;lia
theorem lC (i:Insn):bitsOf i=64∨bitsOf i=32:=by
 unfold bitsOf
 split
 ·exact .inl rfl
 ·exact .inr rfl
theorem XD (x y:Int):x.tdiv y=if(x<0)=(y<0)then(if x<0 then -x else x)/(if y<0 then -y else y)else -((if x<0 then -x else x)/(if y<0 then -y else y)):=by
 by_cases hx:x<0<;>by_cases hy:y<0
 ·rw[aPos (by simp[hx,hy]),aPos hx,aPos hy]
  rw[show x.tdiv y=(-x).tdiv (-y) by rw[Int.neg_tdiv_neg]]
  exact Int.tdiv_eq_ediv_of_nonneg (by lia)
 ·rw[aa (by simp[hx,hy]),aPos hx,aa hy]
  rw[show x.tdiv y= -((-x).tdiv y) by rw[Int.neg_tdiv];lia,Int.tdiv_eq_ediv_of_nonneg (by lia)]
 ·rw[aa (by simp[hx,hy]),aa hx,aPos hy]
  rw[show x.tdiv y= -(x.tdiv (-y)) by rw[Int.tdiv_neg];lia,Int.tdiv_eq_ediv_of_nonneg (by lia)]
 ·rw[aPos (by simp[hx,hy]),aa hx,aa hy]
  exact Int.tdiv_eq_ediv_of_nonneg (by lia)
theorem XE (x y:Int):x.tmod y=if x<0 then -((if x<0 then -x else x)%(if y<0 then -y else y))else(if x<0 then -x else x)%(if y<0 then -y else y):=by
 have h1:∀z:Int,z.tmod y=z.tmod (if y<0 then -y else y):=fun z=>by
  split
  ·rw[Int.tmod_neg]
  ·rfl
 rw[h1]
 by_cases hx:x<0
 ·rw[aPos hx,aPos hx]
  rw[show x.tmod (if y<0 then -y else y)= -((-x).tmod (if y<0 then -y else y)) by rw[Int.neg_tmod];lia,Int.tmod_eq_emod_of_nonneg (by lia)]
 ·rw[aa hx,aa hx]
  exact Int.tmod_eq_emod_of_nonneg (by lia)
theorem toNat_mod (b w:Nat):((b:Int)%(w:Int)).toNat=b%w:=by
 rw[←Int.natCast_emod,Int.toNat_natCast]
theorem J8 (w op a b:Nat) (hw:0<w) (ha:a<2^w) (hb:b<2^w) (ho:op≤12):Builtin.bitAnd (rH (op:Int) (a:Int) (b:Int) (w:Int)) (bJ (w:Int))=((Path.alu w op 0 a b:Nat):Int):=by
 have small:∀n:Nat,n<2^w→Builtin.bitAnd (n:Int) (bJ (w:Int))=(n:Int):=fun n h=>by rw[jA,Nat.mod_eq_of_lt h]
 unfold rH Path.alu
 match op,ho with
 |0,_=>show Builtin.bitAnd ((a:Int)+b) _=_;rw[←Int.natCast_add,jA];rfl
 |1,_=>show Builtin.bitAnd ((a:Int)-b) _=_;rw[gH];rfl
 |2,_=>show Builtin.bitAnd ((a:Int)*b) _=_;rw[←Int.natCast_mul,jA];rfl
 |3,_=>
  show Builtin.bitAnd (lW (a:Int) b w) _=(((if b=0 then 0 else a/b):Nat):Int)
  unfold lW
  by_cases h:b=0
  ·subst h
   exact small 0 (by lia)
  ·rw[aa h,aPos (by simp;lia),←Int.natCast_ediv,small _ (Nat.lt_of_le_of_lt (Nat.div_le_self _ _) ha)]
 |4,_=>show Builtin.bitAnd (Builtin.bitOr (a:Int) b) _=_;rw[r8,small _ (Nat.or_lt_two_pow ha hb)];rfl
 |5,_=>show Builtin.bitAnd (Builtin.bitAnd (a:Int) b) _=_;rw[Bl,small _ (Nat.and_lt_two_pow _ hb)];rfl
 |6,_=>show Builtin.bitAnd ((a:Int)*2^((b:Int)%(w:Int)).toNat) _=_;rw[toNat_mod,←fZ,←Int.natCast_mul,jA];rfl
 |7,_=>show Builtin.bitAnd ((a:Int)/2^((b:Int)%(w:Int)).toNat) _=_;rw[toNat_mod,←fZ,←Int.natCast_ediv,small _ (Nat.lt_of_le_of_lt (Nat.div_le_self _ _) ha)];rfl
 |8,_=>show Builtin.bitAnd (-(a:Int)) _=_;rw[gH];rfl
 |9,_=>
  show Builtin.bitAnd (lZ (a:Int) b w) _=(((if b=0 then a else a%b):Nat):Int)
  unfold lZ
  by_cases h:b=0
  ·subst h
   exact small a ha
  ·rw[aa h,aPos (by simp;lia),←Int.natCast_emod,small _ (Nat.lt_of_le_of_lt (Nat.mod_le _ _) ha)]
 |10,_=>show Builtin.bitAnd (Builtin.bitXor (a:Int) b) _=_;rw[J5,small _ (Nat.xor_lt_two_pow ha hb)];rfl
 |11,_=>show Builtin.bitAnd (b:Int) _=_;rw[small _ hb];rfl
 |12,_=>show Builtin.bitAnd (bB (a:Int) w/2^((b:Int)%(w:Int)).toNat) _=_;rw[toNat_mod,kE _ _ hw,gH,←fZ];rfl
 |n+13,h=>lia
theorem J9 (w op a b:Nat) (hw:0<w) (ha:a<2^w) (hb:b<2^w) (ho:op=3∨op=9):Builtin.bitAnd (rJ (op:Int) (a:Int) (b:Int) (w:Int)) (bJ (w:Int))=((Path.alu w op 1 a b:Nat):Int):=by
 have small:∀n:Nat,n<2^w→Builtin.bitAnd (n:Int) (bJ (w:Int))=(n:Int):=fun n h=>by rw[jA,Nat.mod_eq_of_lt h]
 unfold rJ Path.alu
 rcases ho with rfl|rfl
 ·show Builtin.bitAnd (kT (a:Int) b w) _=(((if b=0 then 0 else inBits w ((Path.sgn w a).tdiv (Path.sgn w b))):Nat):Int)
  unfold kT
  by_cases h:b=0
  ·subst h
   exact small 0 (by lia)
  ·rw[aa h,aa (by simp;lia),kE _ _ hw,kE _ _ hw,←gH,XD]
   congr 1
   by_cases h2:((Path.sgn w a<0)=(Path.sgn w b<0))
   ·rw[aPos h2,aPos (by rw[decide_eq_true_eq];congr 1;rw[decide_eq_decide];exact iff_of_eq h2)]
   ·rw[aa h2,aa]
    rw[decide_eq_true_eq]
    intro z
    injection z with z
    rw[decide_eq_decide]at z
    exact h2 (propext z)
 ·show Builtin.bitAnd (kW (a:Int) b w) _=(((if b=0 then a else inBits w ((Path.sgn w a).tmod (Path.sgn w b))):Nat):Int)
  unfold kW
  by_cases h:b=0
  ·subst h
   exact small a ha
  ·rw[aa h,aa (by simp;lia),kE _ _ hw,kE _ _ hw,←gH,XE]
   congr 1
   by_cases h2:Path.sgn w a<0
   ·simp only[aPos h2,bq h2]
    rfl
   ·simp only[aa h2,decide_eq_false h2]
    rfl
theorem u7 (c:UInt8) (r:Bytes):Path.little (c::r)=c.toNat+256*Path.little r:=rfl
theorem XF (n v:Nat):littleOf (n+1) v=littleOf n v++[UInt8.ofNat (v/256^n%256)]:=by
 unfold littleOf
 rw[List.range_succ,List.map_append]
 rfl
theorem Ka (n:Nat):(UInt8.ofNat (n%256)).toNat=n%256:=by
 rw[UInt8.toNat_ofNat']
 lia
theorem p256 (n:Nat):(2:Nat)^(8*n)=256^n:=by rw[Nat.pow_mul]
theorem EB (n:Nat):((8:Int)*((0:Int)+(n:Int))).toNat=8*n:=by lia
theorem EC (x c:Nat) (k:Nat) (h:c<2^k):(x*2^k|||c)=x*2^k+c:=by
 rw[Nat.mul_comm,Nat.two_pow_add_eq_or_of_lt h]
theorem Kc (v:Nat):∀n:Nat,k7 (v:Int) n=((Path.little (littleOf n v).reverse:Nat):Int)
 |0=>rfl
 |n+1=>by
  show Builtin.bitOr (k7 (v:Int) n*2^(8:Int).toNat) (Builtin.bitAnd ((v:Int)/2^((8:Int)*((0:Int)+(n:Int))).toNat) 255)=_
  rw[Kc v n,EB,←fZ (8*n),←Int.natCast_ediv,show(255:Int)=bJ ((8:Nat):Int) by decide,jA,XF,List.reverse_append,List.reverse_singleton,List.singleton_append,u7,Ka,p256]
  show Builtin.bitOr (((Path.little (littleOf n v).reverse:Nat):Int)*((2^8:Nat):Int)) _=_
  rw[←Int.natCast_mul,r8,EC _ _ 8 (Nat.mod_lt _ (by decide))]
  congr 1
  lia
theorem XG (i:Insn) (v:Nat) (h:i.cls=4∨i.cls=7) (hi:0≤i.imm):nZ i (v:Int)=((Path.swapped (i.cls==7||i.reg) i.imm.toNat v:Nat):Int):=by
 have t:uC (v:Int) i.imm=((Path.little (littleOf (i.imm.toNat/8) v).reverse:Nat):Int):=by
  unfold uC
  rw[Kc]
  congr 4
  lia
 unfold nZ Path.swapped
 rcases h with h|h
 ·rw[h,aPos (by rfl)]
  cases er:i.reg with
  |true=>rw[aPos rfl];exact t
  |false=>
   rw[aa (by decide)]
   show _=((v%2^i.imm.toNat:Nat):Int)
   rw[show i.imm=((i.imm.toNat:Nat):Int) by lia,jA,Int.toNat_natCast]
 ·rw[h,aa (by decide)]
  exact t
theorem Kd (i:Insn) (d x:Nat) (hc:i.cls=4∨i.cls=7) (ok:mP i):jY i (d:Int) (x:Int)=(((if i.op=13 then Path.swapped (i.cls==7||i.reg) i.imm.toNat d else Path.alu (bitsOf i) i.op i.off (d%2^bitsOf i) (x%2^bitsOf i)):Nat):Int):=by
 unfold jY
 by_cases bK:i.op=13
 ·rw[aPos bK,aPos bK]
  exact XG i d hc (by have:=ok.swap bK;lia)
 ·have hw:0<bitsOf i:=by have:=lC i;lia
  have hm:∀n,n%2^bitsOf i<2^bitsOf i:=fun n=>Nat.mod_lt _ (Nat.pow_pos (by decide))
  rw[aa bK,aa bK,qi,jA,jA]
  by_cases h11:i.op=11∧i.off≠0
  ·rw[aPos h11]
   have ho:=ok.n8 h11.1
   have e:i.off=((i.off.toNat:Nat):Int):=by lia
   have hle:i.off.toNat≤bitsOf i:=by have:=lC i;have:=h11.2;lia
   unfold Path.alu
   rw[h11.1]
   show _=(((if i.off=0 then x%2^bitsOf i else inBits (bitsOf i) (Path.sgn i.off.toNat (x%2^bitsOf i))):Nat):Int)
   rw[aa h11.2,EA _ _ _ hle,←gH]
   congr 1
   rw[←kE _ _ (by have:=h11.2;lia),←e]
  ·rw[aa h11]
   by_cases h0:i.off=0
   ·rw[aa (by lia),h0]
    exact J8 _ _ _ _ hw (hm _) (hm _) (by have:=ok.op;lia)
   ·rw[aPos h0]
    have XH:i.op≠11:=fun z=>h11 ⟨z,h0⟩
    rcases ok.off XH bK with z|⟨z1,z2⟩
    ·exact absurd z h0
    ·rw[z1]
     exact J9 _ _ _ _ hw (hm _) (hm _) z2
theorem Ke (p:List Insn) (k:Nat) (h:k+1<p.length):nW p (k:Int)=((inBits 32 (p.getD k aW).imm+2^32*inBits 32 ((p[k+1]?.map fun(j:Insn)=>j.imm).getD 0):Nat):Int):=by
 unfold nW
 rw[show((k:Int)+1).toNat=k+1 by lia,Int.toNat_natCast,show(4294967295:Int)=bJ ((32:Nat):Int) by decide,gH,gH,show(2:Int)^(32:Int).toNat=((2^32:Nat):Int) by rfl,←Int.natCast_mul,r8,EC _ _ 32 (kD _ _)]
 rw[List.getElem?_eq_getElem h,List.getD_eq_getElem?_getD (i:=k+1),List.getElem?_eq_getElem h]
 congr 1
 show inBits 32 _*2^32+_=_+2^32*inBits 32 _
 rw[Nat.mul_comm,Nat.add_comm]
 rfl
def u8 (z:Int):UInt8:=UInt8.ofNat z.toNat
theorem Kf {z:Int} (h:0≤z∧z≤255):((u8 z).toNat:Int)=z:=by
 unfold u8
 rw[UInt8.toNat_ofNat']
 lia
theorem oB {z:Int} (h:0≤z∧z≤255):(u8 z).toNat=z.toNat:=by
 have:=Kf h
 lia
theorem XI (l:List Int):mX l=l.all (fun(z:Int)=>decide (0≤z)&&decide (z≤255)):=by
 unfold mX
 induction l with
 |nil=>rfl
 |cons a r ih=>
  rw[List.map_cons,List.all_cons,List.all_cons,ih]
  congr 1
  show mW a=_
  unfold mW
  by_cases h:0≤a<;>simp[h]
theorem Kg (l:List Int):Path.bytesIn l=if mX l=true then some (l.map u8)else none:=by
 unfold Path.bytesIn
 rw[XI]
 rfl
theorem XJ (l:List Int):Path.codeIn l=if jw l=true then some (l.map u8)else none:=by
 unfold Path.codeIn jw
 rw[Kg]
 have e:(l.isEmpty=true∨l.length%8≠0∨8*Path.CODE<l.length)↔(l.length=0∨l.length%8≠0∨1024<l.length):=by
  rw[List.isEmpty_iff_length_eq_zero]
  exact Iff.rfl
 by_cases h:(l.length=0∨l.length%8≠0∨1024<l.length)
 ·rw[aPos (e.mpr h),aPos h]
  rfl
 ·rw[aa (fun z=>h (e.mp z)),aa h]
theorem XM (l:List Int) (h8:l.length=8) (hb:AllB l):mU l=Path.decode (l.map u8):=by
 match l,h8 with
 |[a,b,c,d,e,f,g,h],_=>
  have ha:=hb a (by simp);have hb':=hb b (by simp);have hc:=hb c (by simp);have hd:=hb d (by simp);have he:=hb e (by simp);have hf:=hb f (by simp);have hg:=hb g (by simp);have hh:=hb h (by simp)
  unfold mU Path.decode
  simp only[List.map_cons,List.map_nil,List.take_succ_cons,List.take_zero,List.drop_succ_cons,List.drop_zero,Path.little,List.foldr_cons,List.foldr_nil,oB ha,oB hb',oB hc,oB hd,oB he,oB hf,oB hg,oB hh]
  simp only[List.getD_cons_zero,List.getD_cons_succ]
  congr 2<;>lia
theorem XN (l:List Int) (h:jw l=true):progOf l=Path.program (l.map u8):=by
 obtain⟨⟨h1,h2,h3⟩,hb⟩:=Eo h
 unfold progOf Path.program
 rw[List.length_map]
 refine List.map_congr_left fun i hi=>?_
 rw[List.mem_range]at hi
 rw[←List.map_drop,←List.map_take]
 refine XM _ (by rw[List.length_take,List.length_drop];lia) fun z hz=>hb z (List.mem_of_mem_drop (List.mem_of_mem_take hz))
theorem ED (i:Insn):jW i=i.oneX:=by
 unfold jW Insn.oneX
 by_cases h:i.reg=true
 ·rw[aPos h,aPos h]
  by_cases h2:i.imm=0<;>simp[h2]
 ·rw[aa h,aa h]
  by_cases h2:i.src=0<;>simp[h2]
theorem XO (i:Insn):i.reg=true↔i.code/8%2=1:=by
 unfold Insn.reg
 simp
theorem r9 (i:Insn):i.reg=false↔i.code/8%2=0:=by
 unfold Insn.reg
 simp
theorem XQ (i:Insn) (n:Option Insn) (hc:i.cls=7∨i.cls=4) (kG:i.code<256):eU i=i.known n:=by
 unfold Insn.known
 rw[aPos hc]
 unfold eU
 rw[ED]
 by_cases h8:i.op=8
 ·rw[aPos h8,h8]
  cases hr:i.reg
  ·simp only[Bool.not_false,Bool.true_and]
   rw[Bool.eq_iff_iff]
   simp
   lia
  ·simp
 ·rw[aa h8]
  by_cases bK:i.op=13
  ·rw[aPos bK,bK]
   unfold nX
   simp only[kF,lB]
   rw[Bool.eq_iff_iff]
   have hr:=r9 i
   unfold Insn.cls Insn.op at*
   simp[hr]
   have hq:=(by decide+kernel:∀c<256,(c%8=7∨c%8=4)→c/16=13→((215=c∨212=c∨220=c)↔(c%8=4∨c/8%2=0))) _ kG hc bK
   rw[show(215=(i.code:Int))↔215=i.code by lia,show(212=(i.code:Int))↔212=i.code by lia,show(220=(i.code:Int))↔220=i.code by lia,hq,eq_comm (a:=(16:Int)),eq_comm (a:=(32:Int)),eq_comm (a:=(64:Int)),or_assoc]
   exact⟨fun⟨a,b,c,d⟩=>⟨b,c,d,a⟩,fun⟨b,c,d,a⟩=>⟨a,b,c,d⟩⟩
  ·rw[aa bK]
   by_cases h11:i.op=11
   ·rw[aPos h11,h11]
    unfold uG
    rw[ED]
    rw[Bool.eq_iff_iff]
    by_cases h0:i.off=0
    ·simp[h0]
    ·have hx:i.reg=true→(i.oneX=true↔i.imm=0):=fun z=>by unfold Insn.oneX;simp[z]
     cases hr:i.reg
     ·simp[h0]
     ·simp[h0,hx hr]
   ·rw[aa h11]
    by_cases h3:i.op=3∨i.op=9
    ·rw[aPos h3]
     simp only[kF,lB]
     rcases h3 with h3|h3<;>rw[h3]<;>simp<;>rw[Bool.eq_iff_iff]<;>simp<;>lia
    ·rw[aa h3]
     rw[Bool.eq_iff_iff]
     have:i.op≠3∧i.op≠9:=by lia
     have XR:((i.op:Int)<13)↔i.op<13:=by lia
     have e8:¬((i.op:Int)=8):=by lia
     have XS:¬((i.op:Int)=11):=by lia
     have XT:¬((i.op:Int)=13):=by lia
     have e3:¬((i.op:Int)=3):=by lia
     have e9:¬((i.op:Int)=9):=by lia
     simp[e8,XS,XT,e3,e9,XR]
theorem XU (i:Insn) (n:Option Insn) (hc:i.cls=5∨i.cls=6) (kG:i.code<256):dM i=i.known n:=by
 unfold Insn.known
 rw[aa (by lia),aPos hc]
 unfold dM
 rw[ED]
 have hr:=r9 i
 simp only[kF,lB,wF]
 have hx:i.oneX=true↔(i.code/8%2=1∧i.imm=0)∨(i.code/8%2=0∧i.src=0):=by
  unfold Insn.oneX
  by_cases h:i.reg=true
  ·have:=(XO i).mp h
   simp[h,this]
  ·have h2:i.reg=false:=by simpa using h
   have:=(r9 i).mp h2
   simp[h2,this]
 rw[Bool.eq_iff_iff]
 unfold Insn.cls at hc ⊢
 unfold Insn.op
 by_cases h0:i.code/16=0
 ·rw[aPos h0]
  have:=(by decide+kernel:∀c<256,(c%8=5∨c%8=6)→c/16=0→c=5∨c=6∨c=13∨c=14) _ kG hc h0
  rcases this with h|h|h|h<;>simp[h,hr]<;>lia
 ·rw[aa h0]
  by_cases h8:i.code/16=8∨i.code/16=9
  ·rw[aPos h8]
   have:=(by decide+kernel:∀c<256,(c%8=5∨c%8=6)→(c/16=8∨c/16=9)→c=133∨c=134∨c=141∨c=142∨c=149∨c=150∨c=157∨c=158) _ kG hc h8
   rcases this with h|h|h|h|h|h|h|h<;>simp[h,hr]<;>lia
  ·rw[aa h8]
   have h1:¬((i.code:Int)=5):=by lia
   have h2:¬((i.code:Int)=6):=by lia
   have h3:¬((i.code:Int)=133):=by lia
   have h4:¬((i.code:Int)=149):=by lia
   simp[h1,h2,h3,h4]
   cases i.oneX<;>simp
   have hd:(i.code:Int)/16=((i.code/16:Nat):Int):=by lia
   have hq:i.code/16<16:=by lia
   rw[hd]
   revert h0 h8
   revert hq
   generalize i.code/16=q
   revert q
   decide
theorem XW (i:Insn) (n:Option Insn) (hc:i.cls=1):jN i=i.known n:=by
 unfold Insn.known
 rw[aa (by lia),aa (by lia),aa (by lia),aPos hc]
 unfold jN
 rw[Bool.eq_iff_iff]
 have hs:i.size<8↔i.size≠8:=by
  unfold Insn.size
  have:i.code/8%4<4:=Nat.mod_lt _ (by decide)
  generalize i.code/8%4=m at this
  match m,this with
  |0,_=>decide
  |1,_=>decide
  |2,_=>decide
  |3,_=>decide
 have hs':(i.size:Int)<8↔i.size≠8:=by lia
 simp[hs']
 lia
theorem XX (i:Insn) (n:Option Insn) (hc:i.cls=2):lX i=i.known n:=by
 unfold Insn.known
 rw[aa (by lia),aa (by lia),aa (by lia),aa (by lia),aPos hc]
 unfold lX
 rw[Bool.eq_iff_iff]
 simp
 lia
theorem XY (i:Insn) (n:Option Insn) (hc:i.cls=3):jO i=i.known n:=by
 unfold Insn.known
 rw[aa (by lia),aa (by lia),aa (by lia),aa (by lia),aa (by lia)]
 unfold jO dH Path.atomic
 simp only[kF,lB,wD]
 rw[Bool.eq_iff_iff,hc]
 by_cases h:i.mode=192
 ·simp[h]
  refine and_congr (or_congr (by lia) (by lia)) ?_
  iterate 9 refine or_congr eq_comm ?_
  exact eq_comm
 ·have h':¬((i.mode:Int)=192):=by lia
  simp[h,h']
  lia
theorem XZ (i:Insn) (n:Option Insn) (hc:i.cls=0):(if ji i=false then false else if i.code=24 then(match n with|none=>true|some j=>mK j)else true)=i.known n:=by
 have e:i.known n=(i.wide&&(i.src==0&&(i.off==0&&match n with
  |none=>true
  |some j=>j.code==0&&(j.dst==0&&(j.src==0&&j.off==0))))):=by
  unfold Insn.known
  rw[aa (by lia),aa (by lia),aPos hc]
  cases n<;>rfl
 rw[e]
 unfold ji Insn.wide
 by_cases h:i.code=24
 ·have h':(i.code:Int)=24:=by lia
  by_cases h1:i.src=0
  ·by_cases h2:i.off=0
   ·simp[h,h1,h2]
    cases n with
    |none=>rfl
    |some j=>
     unfold mK
     simp only
     rw[Bool.eq_iff_iff]
     simp
   ·simp[h,h1,h2]
  ·simp[h,h1]
 ·have h':¬((i.code:Int)=24):=by lia
  simp[h,h']
theorem X0 (p:List Insn) (k:Nat) (hk:k<p.length) (kG:(p.getD k aW).code<256):n9 p (k:Int)=(p.getD k aW).known p[k+1]? :=by
 unfold n9
 rw[Int.toNat_natCast,show((k:Int)+1).toNat=k+1 by lia]
 generalize hi:p.getD k aW=i at kG
 have ZT:i.cls<8:=uJ i
 by_cases hc:i.cls=0
 ·rw[←XZ i _ hc,hc]
  show(if ji i=false then false else _)=_
  by_cases hw:ji i=false
  ·rw[aPos hw,aPos hw]
  ·rw[aa hw,aa hw]
   by_cases fN:i.code=24
   ·rw[aPos fN]
    by_cases hl:k+1<p.length
    ·rw[aPos ⟨fN,by lia⟩,List.getElem?_eq_getElem hl,List.getD_eq_getElem?_getD,List.getElem?_eq_getElem hl]
     rfl
    ·rw[aa (by lia),List.getElem?_eq_none (by lia)]
   ·rw[aa (by lia),aa fN]
 ·have fN:i.code≠24:=fun z=>hc (by unfold Insn.cls;lia)
  rw[aa (c:=i.code=24∧_) (fun z=>fN z.1)]
  have fin:∀b:Bool,(if b=false then false else true)=b:=fun b=>by cases b<;>rfl
  rw[fin]
  unfold uI
  rw[aa hc]
  by_cases h1:i.cls=1
  ·rw[aPos h1];exact XW i _ h1
  ·rw[aa h1]
   by_cases h2:i.cls=2
   ·rw[aPos h2];exact XX i _ h2
   ·rw[aa h2]
    by_cases h3:i.cls=3
    ·rw[aPos h3];exact XY i _ h3
    ·rw[aa h3]
     by_cases h4:i.cls=4∨i.cls=7
     ·rw[aPos h4];exact XQ i _ h4.symm kG
     ·rw[aa h4];exact XU i _ (by lia) kG
theorem X3 (i:Insn):k6 i 10=(i.writes==some 10):=by
 unfold k6 dH Insn.writes Path.CMPXCHG
 simp only[kF,lB]
 by_cases h:i.cls=7∨i.cls=4∨i.cls=0∨i.cls=1
 ·rw[aPos h,aPos (by simp;lia),Bool.eq_iff_iff]
  simp
  lia
 ·rw[aa h,aa (by simp;lia)]
  by_cases h3:i.cls=3∧i.mode=192
  ·rw[aPos (by rw[h3.1,h3.2];decide)]
   rw[show(1:Int)=2^1-1 by decide,W.kbt_mask,show((2:Int)^1-1)=1 by decide,show((2:Int)^1)=2 by decide]
   by_cases h4:i.imm=241
   ·rw[aPos (bq h4),aa (by lia)]
    rfl
   ·rw[aa (by simpa using h4)]
    by_cases h5:i.imm%2=1
    ·rw[aPos (bq h5),aPos (by rw[h3.1,h3.2];exact⟨rfl,rfl,h5,h4⟩),Bool.eq_iff_iff]
     simp
     lia
    ·rw[aa (by simpa using h5),aa (by lia)]
     rfl
  ·rw[aa,aa (by lia)]
   ·rfl
   ·simp
    lia
theorem X4 (i:Insn):nY i= !i.registers:=by
 unfold nY Insn.registers
 rw[X3]
 by_cases h1:i.dst≤10
 ·by_cases h2:i.src≤10
  ·rw[aa (by simp;lia),aa (by simp;lia),bq h1,bq h2]
   simp[bne]
  ·rw[aa (by simp;lia),aPos (by simp;lia),bq h1,decide_eq_false h2]
   rfl
 ·rw[aPos (by simp;lia),decide_eq_false h1]
  rfl
theorem Bm (i:Insn):jq i=i.jumps:=by
 unfold jq Insn.jumps Insn.call Insn.ends
 simp only[kF,lB]
 rw[Bool.eq_iff_iff]
 by_cases h:i.cls=5∨i.cls=6
 ·rw[aPos (by simp;lia)]
  simp
  lia
 ·rw[aa (by simp;lia)]
  simp
  lia
theorem Bo (i:Insn) (k:Nat):fj i (k:Int)=i.target k:=by
 unfold fj Insn.target
 by_cases h:i.code=6
 ·rw[aPos (by simp;lia),aPos h]
 ·rw[aa (by simp;lia),aa h]
theorem X5 (p:List Insn) (i:Insn) (k:Nat) (hk:i.known p[k+1]? =true) (kG:i.code<256):((gk i (k:Int)).map (gX p)).all id=(i.leads k).all (fun(t:Int)=>decide (0≤t)&&Path.begins p t.toNat):=by
 rw[List.all_map]
 show(gk i (k:Int)).all (fun(t:Int)=>decide (0≤t)&&Path.begins p t.toNat)=_
 unfold gk Insn.leads Insn.behind
 rw[Bm,Bo]
 by_cases h1:i.code=149
 ·have e1:i.ends=true:=by unfold Insn.ends;simp[h1]
  have e2:i.jumps=false:=by unfold Insn.jumps Insn.ends;simp[h1]
  rw[aPos h1,e2,aa (by decide),aPos (.inl e1)]
  rfl
 ·have e1:i.ends=false:=by unfold Insn.ends;simp[h1]
  rw[aa h1]
  by_cases h2:i.code=24
  ·have e2:i.jumps=false:=by unfold Insn.jumps Insn.cls;simp[h2]
   have e3:i.wide=true:=by unfold Insn.wide;simp[h2]
   have e4:i.always=false:=by unfold Insn.always;simp[h2]
   rw[aPos h2,e2,e1,e3,e4,aa (by decide),aa (by decide),aPos rfl]
   rfl
  ·have e3:i.wide=false:=by unfold Insn.wide;simp[h2]
   rw[aa h2]
   by_cases h3:i.jumps=true
   ·rw[aa (by rw[h3];decide),aPos h3,e1,e3]
    have hc:i.cls=5∨i.cls=6:=by
     unfold Insn.jumps at h3
     simp at h3
     exact h3.1
    by_cases h4:i.op=0
    ·have e4:i.always=true:=by
      have hreg:i.reg=false:=by
       unfold Insn.known at hk
       rw[aa (by lia),aPos hc,aPos h4]at hk
       simp at hk
       exact hk.1
      have:=(r9 i).mp hreg
      unfold Insn.always
      unfold Insn.op at h4
      unfold Insn.cls at hc
      simp
      lia
     rw[aPos h4,e4,aPos (by simp)]
     rfl
    ·have e4:i.always=false:=by
      unfold Insn.always
      unfold Insn.op at h4
      simp
      lia
     rw[aa h4,e4,aa (by simp),aa (by decide)]
     simp only[List.all_cons,List.all_nil,List.singleton_append,Bool.and_true]
     rw[Bool.and_comm]
     rfl
   ·have h3':i.jumps=false:=by simpa using h3
    have e4:i.always=false:=by
     unfold Insn.always
     unfold Insn.jumps Insn.call Insn.ends Insn.cls at h3'
     simp at h3' ⊢
     lia
    rw[aPos h3',aa h3,e1,e3,e4,aa (by simp),aa (by decide)]
    rfl
theorem X6 (p:List Insn) (k:Nat) (hk:k<p.length) (kG:(p.getD k aW).code<256) (hb:Path.begins p k=true):j0 p (k:Int)=Path.wrong p k:=by
 unfold j0 Path.wrong
 rw[X0 p k hk kG,Int.toNat_natCast,X4]
 have e:p[k]? =some (p.getD k aW):=by rw[List.getD_eq_getElem?_getD,List.getElem?_eq_getElem hk];rfl
 rw[e]
 show _=if Path.begins p k=false then 0 else _
 rw[aa (c:=Path.begins p k=false) (by rw[hb];decide)]
 by_cases h1:(p.getD k aW).known p[k+1]? =false
 ·rw[aPos h1,aPos h1]
 ·rw[aa h1,aa h1]
  have CD:(p.getD k aW).known p[k+1]? =true:=by simpa using h1
  by_cases h2:(p.getD k aW).registers=false
  ·rw[aPos (by rw[h2];rfl),aPos h2]
  ·rw[aa (by simpa using h2),aa h2,X5 p _ k CD kG]
   by_cases h3:((p.getD k aW).leads k).all (fun(t:Int)=>decide (0≤t)&&Path.begins p t.toNat)=true
   ·rw[aPos h3,aa (by rw[h3];decide)]
   ·rw[aa h3,aPos (by simpa using h3)]
def EE (p:List Insn):Prop:=∀k,k<p.length→(p.getD k aW).code<256
theorem X7 (f:Nat→Bool) (n:Nat):(List.range (n+1)).find? f=((List.range n).find? f).or (if f n=true then some n else none):=by
 rw[List.range_succ,List.find?_append]
 congr 1
 rw[List.find?_singleton]
theorem Kh (p:List Insn) (hc:EE p):∀n,n≤p.length→gy p n=match(List.range n).find? (fun(k:Nat)=>Path.wrong p k != 0)with
  |none=>[]
  |some k=>[Path.wrong p k,(k:Int)]
 |0,_=>rfl
 |n+1,h=>by
  rw[X7]
  unfold gy
  rw[Kh p hc n (by lia)]
  cases e:(List.range n).find? (fun(k:Nat)=>Path.wrong p k != 0)with
  |some k=>rfl
  |none=>
   show(if Path.begins p n=true∧j0 p (n:Int)≠0 then[j0 p (n:Int),(n:Int)]else[])=_
   rw[Option.none_or]
   by_cases hb:Path.begins p n=true
   ·rw[X6 p n (by lia) (hc n (by lia)) hb]
    by_cases hw:Path.wrong p n=0
    ·rw[aa (fun z=>z.2 hw),aa (by simp[hw])]
    ·rw[aPos ⟨hb,hw⟩,aPos (by simp[hw])]
   ·have hw:Path.wrong p n=0:=by
     unfold Path.wrong
     split
     ·rfl
     ·rw[aPos (by simpa using hb)]
    rw[aa (fun z=>hb z.1),aa (by simp[hw])]
def S (r:Range_):S3:=(((r.kind:Nat):Int),((r.lo:Nat):Int),((r.hi:Nat):Int))
structure GR (r:Range_):Prop where
 le:r.lo≤r.hi
 hi:r.hi<2^64
 kind:r.kind≤2
 stk:r.kind=2→r.lo=r.hi∧r.hi≤512
 dat:r.kind=1→r.hi≤2^20
theorem GR.num {a b:Nat} (h:a≤b) (h2:b<2^64):GR (numbers a b):=⟨h,h2,(by show 0≤2;decide),fun z=>absurd z (by show ¬(0=2);decide),fun z=>absurd z (by show ¬(0=1);decide)⟩
theorem GR.any:GR Path.any:=GR.num (by decide) (by decide)
theorem any_eq:((0,0,18446744073709551615):S3)=S Path.any:=rfl
theorem Kl (w:Nat):bJ (w:Int)=((2^w-1:Nat):Int):=by
 rw[XA,←fZ]
 have:0<2^w:=Nat.pow_pos (by decide)
 lia
theorem lD (n w:Nat):((n:Int)≤bJ (w:Int))↔n<2^w:=by
 rw[Kl]
 have:0<2^w:=Nat.pow_pos (by decide)
 lia
theorem iV (w:Nat):dS (w:Int)=S (numbers 0 (2^w-1)):=by
 unfold dS S numbers
 rw[Kl]
 rfl
theorem one_num (n:Nat):pS (n:Int)=S (numbers n n):=rfl
theorem Bp (r:Range_):gj (S r)=r.one:=by
 unfold gj S Range_.one
 rw[Bool.eq_iff_iff]
 simp
 lia
theorem oE (r:Range_):r.one=true↔r.kind=0∧r.lo=r.hi:=by
 unfold Range_.one
 simp
theorem EF (lo hi w:Nat):mE (lo:Int) (hi:Int) (w:Int)=S (if hi<2^w then numbers lo hi else numbers 0 (2^w-1)):=by
 unfold mE
 by_cases h:hi<2^w
 ·rw[aPos h,aPos (bq ((lD _ _).mpr h))]
  rfl
 ·rw[aa h,aa (by rw[decide_eq_true_eq,lD];exact h),iV]
theorem qj (a b:Nat):(if(a:Int)<(b:Int)then(a:Int)else(b:Int))=((min b a:Nat):Int):=by split<;>lia
theorem imax (a b:Nat):(if(a:Int)>(b:Int)then(a:Int)else(b:Int))=((max b a:Nat):Int):=by split<;>lia
theorem X8 (a b:Range_):PyData.eqv (d3 (S a)) (d3 (S b))=decide (a.kind=b.kind∧a.lo=b.lo∧a.hi=b.hi):=by
 rw[Bool.eq_iff_iff]
 simp[d3,S,PyData.eqv,PyData.eqvAll]
 lia
theorem Yb {a b:Range_} (ha:GR a) (hb:GR b):gU (S a) (S b)=S (Path.meet a b):=by
 unfold gU Path.meet
 rw[X8]
 obtain⟨ka,la,xa⟩:=a
 obtain⟨kb,lb,xb⟩:=b
 have h1:=ha.kind;have h2:=hb.kind;have h3:=ha.stk;have h4:=hb.stk
 simp only at h1 h2 h3 h4
 simp only[any_eq]
 rw[show(S ⟨ka,la,xa⟩).1=(ka:Int)from rfl,show(S ⟨kb,lb,xb⟩).1=(kb:Int)from rfl,show(S ⟨ka,la,xa⟩).2.1=(la:Int)from rfl,show(S ⟨kb,lb,xb⟩).2.1=(lb:Int)from rfl,show(S ⟨ka,la,xa⟩).2.2=(xa:Int)from rfl,show(S ⟨kb,lb,xb⟩).2.2=(xb:Int)from rfl,qj,imax]
 by_cases hk:ka=kb
 ·subst hk
  by_cases h:ka<2
  ·rw[aPos (c:=ka=ka∧ka<2) ⟨rfl,h⟩]
   by_cases he:la=lb∧xa=xb
   ·obtain⟨rfl,rfl⟩:=he
    rw[aPos (by simp),Nat.min_self,Nat.max_self]
   ·rw[aa (by simp;lia),aPos (by simp),aPos (by simp;lia)]
    rfl
  ·have e2:ka=2:=by lia
   have h3:=h3 e2;have h4:=h4 e2
   rw[aa (c:=ka=ka∧ka<2) (by lia)]
   by_cases he:la=lb
   ·rw[aPos (by simp;lia),aPos ⟨e2,e2,he⟩]
   ·rw[aa (by simp;lia),aPos (by simp),aa (by simp;lia),aa (by lia)]
 ·rw[aa (c:=ka=kb∧ka<2) (by lia),aa (by simp;lia),aa (by simp;lia),aa (by lia)]
theorem Yc {a b:Range_} (ha:GR a) (hb:GR b):GR (Path.meet a b):=by
 unfold Path.meet
 have h1:=ha.le;have h2:=hb.le;have h3:=ha.hi;have h4:=hb.hi
 split
 ·rename_i h
  refine⟨(by show min a.lo b.lo≤max a.hi b.hi;lia),(by show max a.hi b.hi<2^64;lia),ha.kind,fun z=>?_,fun z=>?_⟩
  ·have z:a.kind=2:=z
   lia
  ·have z:a.kind=1:=z
   have:=ha.dat z;have:=hb.dat (by lia)
   show max a.hi b.hi≤2^20
   lia
 ·split
  ·exact ha
  ·exact GR.any
theorem Km (n:Nat):dS ((Builtin.Int.intBits (n:Int):Nat):Int)=S (numbers 0 (Path.ones n)):=by
 rw[iV]
 unfold Path.ones Builtin.Int.intBits
 by_cases h:n=0
 ·subst h
  rfl
 ·rw[aa h]
  simp[h]
def sf (w op:Nat) (off:Int) (a b c d:Nat):Range_:=match Path.spread w op off a b c d with
 |some x=>numbers x.1 x.2
 |none=>numbers 0 (2^w-1)
theorem Yd (w op a b c d:Nat) (hw:0<w) (hab:a≤b) (hcd:c≤d) (ho:op≤12) (h8:op≠8) (h11:op≠11):uE (op:Int) (a:Int) (b:Int) (c:Int) (d:Int) (w:Int)=S (sf w op 0 a b c d):=by
 unfold uE sf Path.spread
 match op,ho with
 |0,_=>
  show pJ (a:Int) (b:Int) (c:Int) (d:Int) (w:Int)=S (match(if b+d<2^w then some (a+c,b+d)else none)with|some x=>_|none=>_)
  unfold pJ
  rw[←Int.natCast_add,←Int.natCast_add,EF]
  split<;>rfl
 |1,_=>
  show l9 (a:Int) (b:Int) (c:Int) (d:Int) (w:Int)=S (match(if d≤a then some (a-d,b-c)else none)with|some x=>_|none=>_)
  unfold l9
  by_cases h:d≤a
  ·rw[aPos h,aPos (by simp;lia)]
   simp only[S,numbers]
   rw[Int.natCast_sub h,Int.natCast_sub (by lia)]
   rfl
  ·rw[aa h,aa (by simp;lia),iV]
 |2,_=>
  show pL (a:Int) (b:Int) (c:Int) (d:Int) (w:Int)=S (match(if b*d<2^w then some (a*c,b*d)else none)with|some x=>_|none=>_)
  unfold pL
  rw[←Int.natCast_mul,←Int.natCast_mul,EF]
  split<;>rfl
 |3,_=>
  show lV (a:Int) (b:Int) (c:Int) (d:Int) (w:Int)=S (match(if 0<c then some (a/d,b/c)else some (0,b))with|some x=>_|none=>_)
  unfold lV
  by_cases h:0<c
  ·rw[aPos h,aPos (by simp;lia)]
   simp only[S,numbers]
   rw[Int.natCast_ediv,Int.natCast_ediv]
   rfl
  ·rw[aa h,aa (by simp;lia)]
   rfl
 |4,_=>
  show jP (a:Int) (b:Int) (c:Int) (d:Int) (w:Int)=S (numbers 0 (Path.ones (max b d)))
  unfold jP
  rw[imax,Km]
 |5,_=>
  show pK (a:Int) (b:Int) (c:Int) (d:Int) (w:Int)=S (numbers 0 (min b d))
  unfold pK
  rw[qj]
  rfl
 |6,_=>
  show lY (a:Int) (b:Int) (c:Int) (d:Int) (w:Int)=S (match(if c=d∧b*2^(c%w)<2^w then some (a*2^(c%w),b*2^(c%w))else none)with|some x=>_|none=>_)
  unfold lY
  by_cases h:c=d
  ·rw[aa (by simp;lia),toNat_mod,←fZ,←Int.natCast_mul,←Int.natCast_mul,EF]
   by_cases h2:b*2^(c%w)<2^w
   ·rw[aPos h2,aPos ⟨h,h2⟩]
   ·rw[aa h2,aa (fun z=>h2 z.2)]
  ·rw[aPos (by simp;lia),aa (fun z=>h z.1),iV]
 |7,_=>
  show jQ (a:Int) (b:Int) (c:Int) (d:Int) (w:Int)=S (match(if c=d then some (a/2^(c%w),b/2^(c%w))else none)with|some x=>_|none=>_)
  unfold jQ
  by_cases h:c=d
  ·rw[aa (by simp;lia),aPos h,toNat_mod,←fZ,←Int.natCast_ediv,←Int.natCast_ediv]
   rfl
  ·rw[aPos (by simp;lia),aa h,iV]
 |8,_=>exact absurd rfl h8
 |9,_=>
  show kU (a:Int) (b:Int) (c:Int) (d:Int) (w:Int)=S (match(if 0<c then(if b<c then some (a,b)else some (0,min b (d-1)))else some (0,b))with|some x=>_|none=>_)
  unfold kU
  by_cases h:0<c
  ·rw[aPos h,aa (by simp;lia)]
   by_cases h2:b<c
   ·rw[aPos h2,aPos (by simp;lia)]
    rfl
   ·rw[aa h2,aa (by simp;lia),show((d:Int)-1)=((d-1:Nat):Int) by lia,qj]
    rfl
  ·rw[aa h,aPos (by simp;lia)]
   rfl
 |10,_=>
  show jP (a:Int) (b:Int) (c:Int) (d:Int) (w:Int)=S (numbers 0 (Path.ones (max b d)))
  unfold jP
  rw[imax,Km]
 |11,_=>exact absurd rfl h11
 |12,_=>
  show l7 (a:Int) (b:Int) (c:Int) (d:Int) (w:Int)=S (match(if c=d∧b<2^(w-1)then some (a/2^(c%w),b/2^(c%w))else none)with|some x=>_|none=>_)
  unfold l7 jQ
  rw[show((w:Int)-1)=((w-1:Nat):Int) by lia]
  by_cases h2:b<2^(w-1)
  ·rw[aPos (bq ((lD _ _).mpr h2))]
   by_cases h:c=d
   ·rw[aa (by simp;lia),aPos ⟨h,h2⟩,toNat_mod,←fZ,←Int.natCast_ediv,←Int.natCast_ediv]
    rfl
   ·rw[aPos (by simp;lia),aa (fun z=>h z.1),iV]
  ·rw[aa (by rw[decide_eq_true_eq,lD];exact h2),aa (fun z=>h2 z.2),iV]
 |n+13,h=>lia
theorem Ye {w op:Nat} {off:Int} {a b:Nat} (hw:0<w) (ha:a<2^w) (hb:b<2^w) (ho:op≤12) (hf:off=0∨(off=1∧(op=3∨op=9))∨op=11):Path.alu w op off a b<2^w:=by
 rcases hf with rfl|⟨rfl,h⟩|rfl
 ·have e:=J8 w op a b hw ha hb ho
  rw[gH]at e
  have:Path.alu w op 0 a b=inBits w (rH (op:Int) a b w):=by lia
  rw[this];exact kD _ _
 ·have e:=J9 w op a b hw ha hb h
  rw[gH]at e
  have:Path.alu w op 1 a b=inBits w (rJ (op:Int) a b w):=by lia
  rw[this];exact kD _ _
 ·show(if off=0 then b else inBits w (Path.sgn off.toNat b))<2^w
  split
  ·exact hb
  ·exact kD _ _
theorem m8 {w:Nat} (h:w≤64):2^w≤2^64:=Nat.pow_le_pow_right (by decide) h
theorem Yg {n w:Nat} (h:n<2^w):Path.ones n<2^w:=by
 unfold Path.ones
 have p:0<2^w:=Nat.pow_pos (by decide)
 split
 ·exact p
 ·rename_i hn
  have h1:Nat.log2 n<w:=(Nat.log2_lt hn).mpr h
  have h2:2^(Nat.log2 n+1)≤2^w:=Nat.pow_le_pow_right (by decide) h1
  lia
theorem jB {α:Type} {c:Prop} [Decidable c] {x y:α} (h:(if c then some x else none)=some y):c∧x=y:=by
 by_cases hc:c
 ·rw[aPos hc]at h;exact⟨hc,Option.some.inj h⟩
 ·rw[aa hc]at h;cases h
theorem Yh {w op a b c d:Nat} {off:Int} (hw:w≤64) (hab:a≤b) (hb:b<2^w) (hcd:c≤d) (hd:d<2^w):GR (sf w op off a b c d):=by
 have p:=m8 hw
 have p0:0<2^w:=Nat.pow_pos (by decide)
 have all:GR (numbers 0 (2^w-1)):=GR.num (by lia) (by lia)
 have key:∀x,Path.spread w op off a b c d=some x→x.1≤x.2∧x.2<2^w:=fun x hx=>by
  unfold Path.spread at hx
  by_cases h0:op=0
  ·rw[aPos h0]at hx
   obtain⟨h,rfl⟩:=jB hx
   exact⟨by show a+c≤b+d;lia,h⟩
  rw[aa h0]at hx
  by_cases h0:op=1
  ·rw[aPos h0]at hx
   obtain⟨h,rfl⟩:=jB hx
   exact⟨by show a-d≤b-c;lia,by show b-c<_;lia⟩
  rw[aa h0]at hx
  by_cases h0:op=2
  ·rw[aPos h0]at hx
   obtain⟨h,rfl⟩:=jB hx
   exact⟨Nat.mul_le_mul hab hcd,h⟩
  rw[aa h0]at hx
  by_cases h0:op=3
  ·rw[aPos h0]at hx
   by_cases h1:off=1
   ·rw[aPos h1]at hx;cases hx
   rw[aa h1]at hx
   by_cases h2:0<c
   ·rw[aPos h2]at hx
    cases hx
    exact⟨Nat.div_le_div hab hcd (by lia),Nat.lt_of_le_of_lt (Nat.div_le_self _ _) hb⟩
   ·rw[aa h2]at hx
    cases hx
    exact⟨Nat.zero_le _,hb⟩
  rw[aa h0]at hx
  by_cases h0:op=9
  ·rw[aPos h0]at hx
   by_cases h1:off=1
   ·rw[aPos h1]at hx;cases hx
   rw[aa h1]at hx
   by_cases h2:0<c
   ·rw[aPos h2]at hx
    by_cases h3:b<c
    ·rw[aPos h3]at hx
     cases hx
     exact⟨hab,hb⟩
    ·rw[aa h3]at hx
     cases hx
     exact⟨Nat.zero_le _,by show min b (d-1)<_;lia⟩
   ·rw[aa h2]at hx
    cases hx
    exact⟨Nat.zero_le _,hb⟩
  rw[aa h0]at hx
  by_cases h0:op=5
  ·rw[aPos h0]at hx
   cases hx
   exact⟨Nat.zero_le _,by show min b d<_;lia⟩
  rw[aa h0]at hx
  by_cases h0:op=4∨op=10
  ·rw[aPos h0]at hx
   cases hx
   exact⟨Nat.zero_le _,Yg (by lia)⟩
  rw[aa h0]at hx
  by_cases h0:op=6
  ·rw[aPos h0]at hx
   obtain⟨h,rfl⟩:=jB hx
   exact⟨Nat.mul_le_mul_right _ hab,h.2⟩
  rw[aa h0]at hx
  by_cases h0:op=7
  ·rw[aPos h0]at hx
   obtain⟨h,rfl⟩:=jB hx
   exact⟨Nat.div_le_div_right hab,Nat.lt_of_le_of_lt (Nat.div_le_self _ _) hb⟩
  rw[aa h0]at hx
  by_cases h0:op=12
  ·rw[aPos h0]at hx
   obtain⟨h,rfl⟩:=jB hx
   exact⟨Nat.div_le_div_right hab,Nat.lt_of_le_of_lt (Nat.div_le_self _ _) hb⟩
  rw[aa h0]at hx
  cases hx
 unfold sf
 cases e:Path.spread w op off a b c d with
 |none=>exact all
 |some x=>exact GR.num (key x e).1 (by have:=(key x e).2;lia)
theorem Yi (i:Insn) (A B:Range_):jU i (S A) (S B)=if i.op=11 then B.one else if i.op=8∨i.op=13 then A.one else A.one&&B.one:=by
 unfold jU
 rw[Bp,Bp]
 by_cases h11:i.op=11
 ·rw[aPos (by simp;lia),aPos h11]
 ·rw[aa (by simp;lia),aa h11]
  by_cases h8:i.op=8
  ·rw[aPos (by simp;lia),aPos (.inl h8)]
  ·rw[aa (by simp;lia)]
   by_cases bK:i.op=13
   ·rw[aPos (by simp;lia),aPos (.inr bK)]
   ·rw[aa (by simp;lia),aa (c:=i.op=8∨i.op=13) (by lia)]
    cases A.one<;>cases B.one<;>rfl
structure NR (w:Nat) (r:Range_):Prop where
 k:r.kind=0
 le:r.lo≤r.hi
 lt:r.hi<2^w
theorem NR.gr {w:Nat} {r:Range_} (h:NR w r) (hw:w≤64):GR r:=⟨h.le,Nat.lt_of_lt_of_le h.lt (m8 hw),by have:=h.k;lia,fun z=>by have:=h.k;lia,fun z=>by have:=h.k;lia⟩
theorem NR.all {w:Nat}:NR w (numbers 0 (2^w-1)):=⟨rfl,Nat.zero_le _,by have:0<2^w:=Nat.pow_pos (by decide);show 2^w-1<2^w;lia⟩
theorem Kn {i:Insn} {A B:Range_} (hA:NR (bitsOf i) A) (hB:NR (bitsOf i) B) (ok:mP i) (h11:i.op≠11) (bK:i.op≠13) (h8:i.op=8→A.one=false) (Yj:i.op≠8→¬(A.one=true∧B.one=true)):
  mQ i (S A) (S B)=S (Path.number (bitsOf i) i.op i.off A B)∧GR (Path.number (bitsOf i) i.op i.off A B):=by
 have hw:0<bitsOf i∧bitsOf i≤64:=by have:=lC i;lia
 unfold mQ Path.number
 rw[qi,iV]
 have p:0<2^bitsOf i:=Nat.pow_pos (by decide)
 by_cases e8:i.op=8
 ·simp only[aPos e8,h8 e8]
  rw[aPos (.inl e8)]
  exact⟨rfl,NR.all.gr hw.2⟩
 ·simp only[aa e8,aa h11,aa (Yj e8)]
  have hop:i.op≤12:=by have:=ok.op;lia
  by_cases h0:i.off=0
  ·rw[aa (by lia),h0]
   show uE (i.op:Int) (A.lo:Int) (A.hi:Int) (B.lo:Int) (B.hi:Int) _=S (sf (bitsOf i) i.op 0 A.lo A.hi B.lo B.hi)∧GR (sf (bitsOf i) i.op 0 A.lo A.hi B.lo B.hi)
   exact⟨Yd _ _ _ _ _ _ hw.1 hA.le hB.le hop e8 h11,Yh hw.2 hA.le hA.lt hB.le hB.lt⟩
  ·rw[aPos (.inr h0)]
   rcases ok.off h11 bK with z|⟨z1,z2⟩
   ·exact absurd z h0
   ·have e:Path.spread (bitsOf i) i.op i.off A.lo A.hi B.lo B.hi=none:=by
     unfold Path.spread
     rcases z2 with z2|z2<;>simp[z2,z1]
    rw[e]
    exact⟨rfl,NR.all.gr hw.2⟩
def di (r:Range_):Range_:=if r.kind=0∧r.hi<2^32 then r else numbers 0 (2^32-1)
theorem Ko (r:Range_):jn (S r)=S (di r):=by
 unfold jn di
 rw[show(S r).1=(r.kind:Int)from rfl,show(S r).2.2=(r.hi:Int)from rfl,show((32:Int))=((32:Nat):Int)from rfl,iV]
 by_cases h:r.kind=0∧r.hi<2^32
 ·rw[aPos h,aPos]
  rw[aPos (by simp;lia)]
  exact bq ((lD _ _).mpr h.2)
 ·rw[aa h,aa]
  by_cases hk:r.kind=0
  ·rw[aPos (by simp;lia),decide_eq_true_eq,lD]
   lia
  ·rw[aa (by simp;lia)]
   decide
theorem EG {r:Range_} (h:GR r):NR 32 (di r):=by
 unfold di
 split
 ·rename_i z
  exact⟨z.1,h.le,z.2⟩
 ·exact NR.all
theorem Bq {r:Range_} (h:(di r).one=true):r.one=true:=by
 unfold di at h
 split at h
 ·exact h
 ·rw[oE]at h
  exact absurd h.2 (by show ¬(0=2^32-1);decide)
theorem Br {i:Insn} {B:Range_} (hB:GR B) (ZU:B.kind=0→B.hi<2^bitsOf i) (hoff:i.off=0∨i.off=8∨i.off=16∨i.off=32):
  mF i (S B)=S (if i.off=0 then B else if B.kind=0∧B.hi<2^(i.off.toNat-1)then B else numbers 0 (2^bitsOf i-1)):=by
 unfold mF
 by_cases h0:i.off=0
 ·rw[aPos (bq h0),aPos h0]
 ·rw[aa (by simpa using h0),aa h0,qi,iV,show(S B).1=(B.kind:Int)from rfl,show(S B).2.2=(B.hi:Int)from rfl,show i.off-1=((i.off.toNat-1:Nat):Int) by lia]
  by_cases h:B.kind=0∧B.hi<2^(i.off.toNat-1)
  ·rw[aPos h,aPos]
   rw[aPos (by simp;lia)]
   exact bq ((lD _ _).mpr h.2)
  ·rw[aa h,aa]
   by_cases hk:B.kind=0
   ·rw[aPos (by simp;lia),decide_eq_true_eq,lD]
    lia
   ·rw[aa (by simp;lia)]
    decide
theorem Kp (t:Bool) (bits v:Nat) (h:bits=16∨bits=32∨bits=64):Path.swapped t bits v<2^bits:=by
 have ll:∀l:Bytes,Path.little l<256^l.length:=fun l=>by
  induction l with
  |nil=>decide
  |cons c r ih=>
   rw[u7,List.length_cons,Nat.pow_succ]
   have:=c.toNat_lt
   lia
 unfold Path.swapped
 split
 ·have h2:=ll (littleOf (bits/8) v).reverse
  rw[List.length_reverse]at h2
  have h3:(littleOf (bits/8) v).length=bits/8:=by unfold littleOf;rw[List.length_map,List.length_range]
  rw[h3,←p256]at h2
  rcases h with rfl|rfl|rfl<;>exact h2
 ·exact Nat.mod_lt _ (Nat.pow_pos (by decide))
theorem Yk {A B:Range_} (hA:GR A) (hB:GR B) (hk:¬(A.kind=0∧B.kind=0)):fh (S A) (S B)=S (if A.kind+B.kind=1 then(if A.hi+B.hi≤2^20 then⟨1,A.lo+B.lo,A.hi+B.hi⟩else Path.any)else if A.kind=2∧B.one=true then Path.shifted ((A.lo:Int)+Path.sgn 64 B.lo)else Path.any):=by
 have sa:∀z:Int,gV z=S (Path.shifted z):=fun z=>by
  unfold gV Path.shifted
  by_cases h1:0≤z
  ·rw[aPos (bq h1)]
   by_cases h2:z≤512
   ·rw[aPos (bq h2),aPos ⟨h1,h2⟩]
    simp only[S]
    rw[Int.toNat_of_nonneg h1]
    rfl
   ·rw[aa (by simpa using h2),aa (by lia)]
    rfl
  ·rw[aa (by simpa using h1),aa (by lia)]
   rfl
 have dp:∀a b:Range_,mG (S a) (S b)=S (if a.hi+b.hi≤2^20 then⟨1,a.lo+b.lo,a.hi+b.hi⟩else Path.any):=fun a b=>by
  unfold mG
  rw[show(S a).2.2=(a.hi:Int)from rfl,show(S b).2.2=(b.hi:Int)from rfl,show(S a).2.1=(a.lo:Int)from rfl,show(S b).2.1=(b.lo:Int)from rfl]
  by_cases h:a.hi+b.hi≤2^20
  ·rw[aPos h,aPos (by simp;lia)]
   rfl
  ·rw[aa h,aa (by simp;lia)]
   rfl
 have h1:=hA.kind;have h2:=hB.kind
 unfold fh
 rw[dp,dp,Bp,sa,show(S A).1=(A.kind:Int)from rfl,show(S B).1=(B.kind:Int)from rfl,show(S A).2.1=(A.lo:Int)from rfl,show(S B).2.1=((B.lo:Nat):Int)from rfl,show((64:Int))=((64:Nat):Int)from rfl,kE _ _ (by decide),any_eq]
 have u9:B.one=true→B.kind=0:=fun z=>((oE B).mp z).1
 have Bs:A.kind=0∨A.kind=1∨A.kind=2:=by lia
 have Bt:B.kind=0∨B.kind=1∨B.kind=2:=by lia
 rcases Bs with a|a|a<;>rcases Bt with b|b|b<;>simp only[a,b]at hk u9 ⊢ <;>first
  |(exact(hk ⟨trivial,trivial⟩).elim)
  |(simp<;>done)
  |(simp[Nat.add_comm]<;>done)
  |(cases e:B.one<;>simp[e]at u9 ⊢ <;>done)
  |skip
theorem Yl (z:Int):gV z=S (Path.shifted z):=by
 unfold gV Path.shifted
 by_cases h1:0≤z
 ·rw[aPos (bq h1)]
  by_cases h2:z≤512
  ·rw[aPos (bq h2),aPos ⟨h1,h2⟩]
   simp only[S]
   rw[Int.toNat_of_nonneg h1]
   rfl
  ·rw[aa (by simpa using h2),aa (by lia)]
   rfl
 ·rw[aa (by simpa using h1),aa (by lia)]
  rfl
theorem Kq (z:Int):GR (Path.shifted z):=by
 unfold Path.shifted
 split
 ·refine⟨Nat.le_refl _,(by show z.toNat<2^64;lia),(by show 2≤2;decide),fun _=>⟨rfl,(by show z.toNat≤512;lia)⟩,fun h=>absurd h (by show ¬(2=1);decide)⟩
 ·exact GR.any
theorem diff_eq {A B:Range_} (hA:GR A) (hB:GR B) (hk:¬(A.kind=0∧B.kind=0)):jm (S A) (S B)=S (if A.kind=1∧B.kind=0 then(if B.hi≤A.lo then⟨1,A.lo-B.hi,A.hi-B.lo⟩else Path.any)else if A.kind=2∧B.one=true then Path.shifted ((A.lo:Int)-Path.sgn 64 B.lo)else Path.any):=by
 have dl:pX (S A) (S B)=S (if B.hi≤A.lo then⟨1,A.lo-B.hi,A.hi-B.lo⟩else Path.any):=by
  unfold pX
  rw[show(S A).2.2=(A.hi:Int)from rfl,show(S B).2.2=(B.hi:Int)from rfl,show(S A).2.1=(A.lo:Int)from rfl,show(S B).2.1=(B.lo:Int)from rfl]
  have:=hA.le;have:=hB.le
  by_cases h:B.hi≤A.lo
  ·rw[aPos h,aa (by simp;lia)]
   simp only[S]
   rw[Int.natCast_sub h,Int.natCast_sub (by lia)]
   rfl
  ·rw[aa h,aPos (by simp;lia)]
   rfl
 have h1:=hA.kind;have h2:=hB.kind
 unfold jm
 rw[dl,Bp,Yl,show(S A).1=(A.kind:Int)from rfl,show(S B).1=(B.kind:Int)from rfl,show(S A).2.1=(A.lo:Int)from rfl,show(S B).2.1=((B.lo:Nat):Int)from rfl,show((64:Int))=((64:Nat):Int)from rfl,kE _ _ (by decide),any_eq]
 have u9:B.one=true→B.kind=0:=fun z=>((oE B).mp z).1
 have Bs:A.kind=0∨A.kind=1∨A.kind=2:=by lia
 have Bt:B.kind=0∨B.kind=1∨B.kind=2:=by lia
 rcases Bs with a|a|a<;>rcases Bt with b|b|b<;>simp only[a,b]at hk u9 ⊢ <;>first
  |(exact(hk ⟨trivial,trivial⟩).elim)
  |(simp<;>done)
  |(cases e:B.one<;>simp[e]at u9 ⊢ <;>done)
  |skip
theorem Kr {i:Insn} {d x:Nat} (hc:i.cls=7∨i.cls=4) (ok:mP i) (bK:i.op≠13):Path.alu (bitsOf i) i.op i.off (d%2^bitsOf i) (x%2^bitsOf i)<2^bitsOf i:=by
 have hw:0<bitsOf i:=by have:=lC i;lia
 have hm:∀n,n%2^bitsOf i<2^bitsOf i:=fun n=>Nat.mod_lt _ (Nat.pow_pos (by decide))
 refine Ye hw (hm _) (hm _) (by have:=ok.op;lia) ?_
 by_cases h11:i.op=11
 ·exact .inr (.inr h11)
 ·rcases ok.off h11 bK with z|z
  ·exact .inl z
  ·exact .inr (.inl z)
theorem Ks (w:Nat) (off:Int) (a b:Nat):Path.alu w 8 off a b=Path.alu w 8 0 a 0:=rfl
theorem Ym (w:Nat) (off:Int) (a b:Nat):Path.alu w 11 off a b=Path.alu w 11 off 0 b:=rfl
theorem Yn (i:Insn) (A B:Range_) (hA:GR A) (hB:GR B) (hc:i.cls=7∨i.cls=4) (ok:mP i):iO i (S A) (S B)=S (Path.result i A B)∧GR (Path.result i A B):=by
 have e1:jY i (S A).2.1 (S B).2.1=_:=Kd i A.lo B.lo hc.symm ok
 unfold iO
 rw[e1]
 have kq:=Yi i A B
 generalize jU i (S A) (S B)=kn at kq
 have Yo:bitsOf i≤64:=by have:=lC i;lia
 have ZV:=m8 Yo
 by_cases bK:i.op=13
 ·have hi:=ok.swap bK
  have en:i.imm=((i.imm.toNat:Nat):Int):=by lia
  have hb:i.imm.toNat=16∨i.imm.toNat=32∨i.imm.toNat=64:=by lia
  have hr:Path.result i A B=if A.one=true then numbers (Path.swapped (i.cls==7||i.reg) i.imm.toNat A.lo) (Path.swapped (i.cls==7||i.reg) i.imm.toNat A.lo)else numbers 0 (2^i.imm.toNat-1):=by
   unfold Path.result
   rw[aPos bK]
  rw[aa (by lia),aPos (.inr bK)]at kq
  have hs:=Kp (i.cls==7||i.reg) i.imm.toNat A.lo hb
  have hp:2^i.imm.toNat≤2^64:=m8 (by lia)
  have hp0:0<2^i.imm.toNat:=Nat.pow_pos (by decide)
  by_cases ho:A.one=true
  ·rw[hr,aPos (c:=kn=true) (by rw[kq];exact ho),aPos ho,aPos bK,one_num]
   exact⟨rfl,GR.num (Nat.le_refl _) (by lia)⟩
  ·rw[hr,aa (c:=kn=true) (by rw[kq];exact ho),aa ho,aPos (by rw[bK];rfl),en,iV,Int.toNat_natCast]
   exact⟨rfl,GR.num (Nat.zero_le _) (by lia)⟩
 rw[aa bK,aa (c:=decide (((i.op:Nat):Int)=13)=true) (by simp;lia)]
 have kH:=Kr (d:=A.lo) (x:=B.lo) hc ok bK
 rcases hc with hc|hc
 ·
  have hw:bitsOf i=64:=by unfold bitsOf;rw[aPos (.inl hc)]
  have hr:Path.result i A B=if i.op=11∧i.off=0 then B
   else if i.op=11∧B.kind=0 then Path.number 64 11 i.off A B
   else if i.op=8∧A.kind=0 then Path.number 64 8 0 A B
   else if i.op≠11∧i.op≠8∧A.kind=0∧B.kind=0 then Path.number 64 i.op i.off A B
   else if i.op=0∧A.kind+B.kind=1 then(if A.hi+B.hi≤2^20 then⟨1,A.lo+B.lo,A.hi+B.hi⟩else Path.any)
   else if i.op=1∧A.kind=1∧B.kind=0 then(if B.hi≤A.lo then⟨1,A.lo-B.hi,A.hi-B.lo⟩else Path.any)
   else if i.op=0∧A.kind=2∧B.one=true then Path.shifted ((A.lo:Int)+Path.sgn 64 B.lo)
   else if i.op=1∧A.kind=2∧B.one=true then Path.shifted ((A.lo:Int)-Path.sgn 64 B.lo)
   else Path.any:=by
   unfold Path.result
   rw[aa bK,aa (by lia)]
  rw[hw]at kH ⊢
  have mA:A.lo%2^64=A.lo:=Nat.mod_eq_of_lt (by have:=hA.le;have:=hA.hi;lia)
  have mB:B.lo%2^64=B.lo:=Nat.mod_eq_of_lt (by have:=hB.le;have:=hB.hi;lia)
  rw[mA,mB]at kH ⊢
  rw[aPos (c:=decide (((i.cls:Nat):Int)=7)=true) (by rw[hc];rfl),aa (c:=decide (((i.cls:Nat):Int)=4)=true) (by rw[hc];decide)]
  by_cases h11:i.op=11
  ·rw[aPos h11]at kq
   rw[aPos (c:=decide (((i.op:Nat):Int)=11)=true) (by rw[h11];rfl)]
   by_cases h0:i.off=0
   ·rw[show Path.result i A B=B by rw[hr,aPos ⟨h11,h0⟩]]
    refine⟨?_,hB⟩
    by_cases hb:B.one=true
    ·rw[aPos (c:=kn=true) (by rw[kq];exact hb),h0,h11,one_num]
     obtain⟨k,e⟩:=(oE B).mp hb
     show S (numbers B.lo B.lo)=S B
     obtain⟨kb,lb,xb⟩:=B
     simp only at k e
     subst k e
     rfl
    ·rw[aa (c:=kn=true) (by rw[kq];exact hb),Br hB (fun _=>by rw[hw];exact hB.hi) (ok.n8 h11),aPos h0]
   ·by_cases hk:B.kind=0
    ·have hn:Path.number 64 11 i.off A B=if B.one=true then numbers (Path.alu 64 11 i.off 0 B.lo) (Path.alu 64 11 i.off 0 B.lo)else if i.off=0∨B.hi<2^(i.off.toNat-1)then numbers B.lo B.hi else numbers 0 (2^64-1):=rfl
     rw[show Path.result i A B=_ by rw[hr,aa (c:=i.op=11∧i.off=0) (fun z=>h0 z.2),aPos ⟨h11,hk⟩,hn]]
     rw[h11,Ym]at kH ⊢
     by_cases hb:B.one=true
     ·rw[aPos (c:=kn=true) (by rw[kq];exact hb),aPos hb,one_num]
      exact⟨rfl,GR.num (Nat.le_refl _) kH⟩
     ·rw[aa (c:=kn=true) (by rw[kq];exact hb),aa hb,Br hB (fun _=>by rw[hw];exact hB.hi) (ok.n8 h11),aa h0,hw]
      by_cases h2:B.hi<2^(i.off.toNat-1)
      ·rw[aPos ⟨hk,h2⟩,aPos (.inr h2)]
       refine⟨?_,GR.num hB.le hB.hi⟩
       obtain⟨kb,lb,xb⟩:=B
       simp only at hk
       subst hk
       rfl
      ·rw[aa (fun z=>h2 z.2),aa (by lia)]
       exact⟨rfl,NR.all.gr (by decide)⟩
    ·have hb:¬B.one=true:=fun z=>hk ((oE B).mp z).1
     have hx:Path.result i A B=Path.any:=by rw[hr,aa (fun z=>h0 z.2),aa (fun z=>hk z.2),aa (by lia),aa (by lia),aa (by lia),aa (by lia),aa (by lia),aa (by lia)]
     rw[hx,aa (c:=kn=true) (by rw[kq];exact hb),Br hB (fun _=>by rw[hw];exact hB.hi) (ok.n8 h11),aa h0,aa (fun z=>hk z.1),hw]
     exact⟨rfl,GR.any⟩
  ·rw[aa h11]at kq
   rw[aa (c:=decide (((i.op:Nat):Int)=11)=true) (by simp;lia)]
   have Bs:=hA.kind;have Bt:=hB.kind
   by_cases h8:i.op=8
   ·rw[aPos (.inl h8)]at kq
    rw[h8,Ks]at kH
    by_cases hk:A.kind=0
    ·have hn:Path.number 64 8 0 A B=if A.one=true then numbers (Path.alu 64 8 0 A.lo 0) (Path.alu 64 8 0 A.lo 0)else numbers 0 (2^64-1):=rfl
     have hx:Path.result i A B=Path.number 64 8 0 A B:=by rw[hr,aa (by lia),aa (by lia),aPos ⟨h8,hk⟩]
     rw[hx,hn]
     by_cases ho:A.one=true
     ·rw[aPos (c:=kn=true) (by rw[kq];exact ho),aPos ho,h8,Ks,one_num]
      exact⟨rfl,GR.num (Nat.le_refl _) kH⟩
     ·rw[aa (c:=kn=true) (by rw[kq];exact ho),aa ho]
      refine⟨?_,NR.all.gr (by decide)⟩
      rw[show(S A).1=(A.kind:Int)from rfl,show(S B).1=(B.kind:Int)from rfl,hk,aPos (by rfl)]
      by_cases hkb:B.kind=0
      ·rw[aPos (by rw[hkb];rfl)]
       unfold mQ
       rw[aPos (.inl h8),qi,hw,iV]
      ·rw[aa (by simp;lia)]
       unfold iN
       rw[h8]
       rfl
    ·have ho:¬A.one=true:=fun z=>hk ((oE A).mp z).1
     have hx:Path.result i A B=Path.any:=by rw[hr,aa (by lia),aa (by lia),aa (by lia),aa (by lia),aa (by lia),aa (by lia),aa (by lia),aa (by lia)]
     rw[hx,aa (c:=kn=true) (by rw[kq];exact ho)]
     refine⟨?_,GR.any⟩
     rw[show(S A).1=(A.kind:Int)from rfl,aa (by simp;lia)]
     unfold iN
     rw[h8]
     rfl
   ·rw[aa (by lia)]at kq
    by_cases hkk:A.kind=0∧B.kind=0
    ·have hx:Path.result i A B=Path.number 64 i.op i.off A B:=by rw[hr,aa (by lia),aa (by lia),aa (by lia),aPos ⟨h11,h8,hkk⟩]
     rw[hx]
     by_cases ho:A.one=true∧B.one=true
     ·rw[aPos (c:=kn=true) (by rw[kq,ho.1,ho.2];rfl),one_num]
      have hn:Path.number 64 i.op i.off A B=numbers (Path.alu 64 i.op i.off A.lo B.lo) (Path.alu 64 i.op i.off A.lo B.lo):=by
       unfold Path.number
       simp only[aa h8,aa h11,aPos ho]
      rw[hn]
      exact⟨rfl,GR.num (Nat.le_refl _) kH⟩
     ·rw[aa (c:=kn=true) (by rw[kq,Bool.and_eq_true];exact ho)]
      rw[show(S A).1=(A.kind:Int)from rfl,show(S B).1=(B.kind:Int)from rfl,hkk.1,hkk.2,aPos (by rfl),aPos (by rfl)]
      have q:=Kn (i:=i) (A:=A) (B:=B) ⟨hkk.1,hA.le,by rw[hw];exact hA.hi⟩ ⟨hkk.2,hB.le,by rw[hw];exact hB.hi⟩ ok h11 bK (fun z=>absurd z h8) (fun _=>ho)
      rw[hw]at q
      exact q
    ·have ho:¬(A.one=true∧B.one=true):=fun z=>hkk ⟨((oE A).mp z.1).1,((oE B).mp z.2).1⟩
     have hx:Path.result i A B=if i.op=0∧A.kind+B.kind=1 then(if A.hi+B.hi≤2^20 then⟨1,A.lo+B.lo,A.hi+B.hi⟩else Path.any)
      else if i.op=1∧A.kind=1∧B.kind=0 then(if B.hi≤A.lo then⟨1,A.lo-B.hi,A.hi-B.lo⟩else Path.any)
      else if i.op=0∧A.kind=2∧B.one=true then Path.shifted ((A.lo:Int)+Path.sgn 64 B.lo)
      else if i.op=1∧A.kind=2∧B.one=true then Path.shifted ((A.lo:Int)-Path.sgn 64 B.lo)
      else Path.any:=by rw[hr,aa (by lia),aa (by lia),aa (by lia),aa (c:=i.op≠11∧i.op≠8∧A.kind=0∧B.kind=0) (fun z=>hkk z.2.2)]
     rw[aa (c:=kn=true) (by rw[kq,Bool.and_eq_true];exact ho)]
     have addr:(if decide ((S A).1=0)=true then(if decide ((S B).1=0)=true then mQ i (S A) (S B)else iN i (S A) (S B))else iN i (S A) (S B))=iN i (S A) (S B):=by
      rw[show(S A).1=(A.kind:Int)from rfl,show(S B).1=(B.kind:Int)from rfl]
      by_cases a:A.kind=0
      ·rw[aPos (by rw[a];rfl),aa (by simp;lia)]
      ·rw[aa (by simp;lia)]
     rw[addr]
     unfold iN
     have a1:=hA.le;have a2:=hB.le;have a3:=hA.hi;have a4:=hB.hi
     by_cases h0:i.op=0
     ·rw[aPos (by rw[h0];rfl),Yk hA hB hkk]
      by_cases c1:A.kind+B.kind=1
      ·rw[hx,aPos c1,aPos (c:=i.op=0∧A.kind+B.kind=1) ⟨h0,c1⟩]
       refine⟨rfl,?_⟩
       split
       ·exact⟨(by show A.lo+B.lo≤A.hi+B.hi;lia),(by show A.hi+B.hi<2^64;lia),(by show 1≤2;decide),fun z=>absurd z (by show ¬(1=2);decide),fun _=>by assumption⟩
       ·exact GR.any
      ·rw[aa c1]
       by_cases c2:A.kind=2∧B.one=true
       ·rw[hx,aPos c2,aa (c:=i.op=0∧A.kind+B.kind=1) (fun z=>c1 z.2),aa (c:=i.op=1∧A.kind=1∧B.kind=0) (by lia),aPos ⟨h0,c2⟩]
        exact⟨rfl,Kq _⟩
       ·rw[hx,aa c2,aa (c:=i.op=0∧A.kind+B.kind=1) (fun z=>c1 z.2),aa (c:=i.op=1∧A.kind=1∧B.kind=0) (by lia),aa (fun z=>c2 z.2),aa (by lia)]
        exact⟨rfl,GR.any⟩
     ·rw[aa (c:=decide (((i.op:Nat):Int)=0)=true) (by simp;lia)]
      by_cases h1:i.op=1
      ·rw[aPos (c:=decide (((i.op:Nat):Int)=1)=true) (by rw[h1];rfl),diff_eq hA hB hkk]
       by_cases c1:A.kind=1∧B.kind=0
       ·rw[hx,aPos c1,aa (c:=i.op=0∧A.kind+B.kind=1) (fun z=>h0 z.1),aPos (c:=i.op=1∧A.kind=1∧B.kind=0) ⟨h1,c1⟩]
        refine⟨rfl,?_⟩
        have:=hA.dat c1.1
        split
        ·exact⟨(by show A.lo-B.hi≤A.hi-B.lo;lia),(by show A.hi-B.lo<2^64;lia),(by show 1≤2;decide),fun z=>absurd z (by show ¬(1=2);decide),fun _=>by show A.hi-B.lo≤2^20;lia⟩
        ·exact GR.any
       ·rw[aa c1]
        by_cases c2:A.kind=2∧B.one=true
        ·rw[hx,aPos c2,aa (c:=i.op=0∧A.kind+B.kind=1) (fun z=>h0 z.1),aa (c:=i.op=1∧A.kind=1∧B.kind=0) (fun z=>c1 z.2),aa (c:=i.op=0∧A.kind=2∧B.one=true) (fun z=>h0 z.1),aPos (c:=i.op=1∧A.kind=2∧B.one=true) ⟨h1,c2⟩]
         exact⟨rfl,Kq _⟩
        ·rw[hx,aa c2,aa (c:=i.op=0∧A.kind+B.kind=1) (fun z=>h0 z.1),aa (c:=i.op=1∧A.kind=1∧B.kind=0) (fun z=>c1 z.2),aa (c:=i.op=0∧A.kind=2∧B.one=true) (fun z=>h0 z.1),aa (c:=i.op=1∧A.kind=2∧B.one=true) (fun z=>c2 z.2)]
         exact⟨rfl,GR.any⟩
      ·rw[hx,aa (c:=decide (((i.op:Nat):Int)=1)=true) (by simp;lia),aa (c:=i.op=0∧A.kind+B.kind=1) (fun z=>h0 z.1),aa (c:=i.op=1∧A.kind=1∧B.kind=0) (fun z=>h1 z.1),aa (c:=i.op=0∧A.kind=2∧B.one=true) (fun z=>h0 z.1),aa (c:=i.op=1∧A.kind=2∧B.one=true) (fun z=>h1 z.1)]
       exact⟨rfl,GR.any⟩
 ·
  have hw:bitsOf i=32:=by unfold bitsOf;rw[aa (by lia)]
  have hr:Path.result i A B=if(i.op=8∨B.one=true)∧(i.op=11∨A.one=true)then numbers (Path.alu 32 i.op i.off (A.lo%2^32) (B.lo%2^32)) (Path.alu 32 i.op i.off (A.lo%2^32) (B.lo%2^32))else Path.number 32 i.op i.off (di A) (di B):=by
   unfold Path.result
   rw[aa bK,aPos hc]
   rfl
  rw[hw]at kH ⊢
  rw[aa (c:=decide (((i.cls:Nat):Int)=7)=true) (by rw[hc];decide),aPos (c:=decide (((i.cls:Nat):Int)=4)=true) (by rw[hc];rfl),Ko,Ko]
  have vc:∀n,n<2^32→n<2^64:=fun n h=>by lia
  by_cases h11:i.op=11
  ·rw[aPos h11]at kq
   rw[aPos (c:=decide (((i.op:Nat):Int)=11)=true) (by rw[h11];rfl)]
   by_cases hb:B.one=true
   ·rw[hr,aPos (c:=kn=true) (by rw[kq];exact hb),aPos ⟨.inr hb,.inl h11⟩,one_num]
    exact⟨rfl,GR.num (Nat.le_refl _) (vc _ kH)⟩
   ·have nB:=EG hB
    have hlo:¬(di B).one=true:=fun z=>hb (Bq z)
    have hn:Path.number 32 11 i.off (di A) (di B)=if(di B).one=true then numbers (Path.alu 32 11 i.off 0 (di B).lo) (Path.alu 32 11 i.off 0 (di B).lo)else if i.off=0∨(di B).hi<2^(i.off.toNat-1)then numbers (di B).lo (di B).hi else numbers 0 (2^32-1):=rfl
    have hx:Path.result i A B=if i.off=0∨(di B).hi<2^(i.off.toNat-1)then numbers (di B).lo (di B).hi else numbers 0 (2^32-1):=by
     rw[hr,aa (fun z=>z.1.elim (fun y=>by lia) hb),h11,hn,aa hlo]
    rw[hx,aa (c:=kn=true) (by rw[kq];exact hb),Br (nB.gr (by decide)) (fun _=>by rw[hw];exact nB.lt) (ok.n8 h11),hw]
    have ek:S (di B)=S (numbers (di B).lo (di B).hi):=by
     have k:=nB.k
     generalize di B=r at k
     obtain⟨kb,lb,xb⟩:=r
     simp only at k
     subst k
     rfl
    by_cases h0:i.off=0
    ·rw[aPos h0,aPos (.inl h0)]
     exact⟨ek,GR.num nB.le (vc _ nB.lt)⟩
    ·rw[aa h0]
     by_cases h2:(di B).hi<2^(i.off.toNat-1)
     ·rw[aPos ⟨nB.k,h2⟩,aPos (.inr h2)]
      exact⟨ek,GR.num nB.le (vc _ nB.lt)⟩
     ·rw[aa (fun z=>h2 z.2),aa (by lia)]
      exact⟨rfl,NR.all.gr (by decide)⟩
  ·rw[aa h11]at kq
   rw[aa (c:=decide (((i.op:Nat):Int)=11)=true) (by simp;lia)]
   have q:=fun z1 z2=>Kn (i:=i) (A:=di A) (B:=di B) (by rw[hw];exact EG hA) (by rw[hw];exact EG hB) ok h11 bK z1 z2
   rw[hw]at q
   by_cases h8:i.op=8
   ·rw[aPos (.inl h8)]at kq
    by_cases ho:A.one=true
    ·rw[hr,aPos (c:=kn=true) (by rw[kq];exact ho),aPos ⟨.inl h8,.inr ho⟩,one_num]
     exact⟨rfl,GR.num (Nat.le_refl _) (vc _ kH)⟩
    ·rw[hr,aa (c:=kn=true) (by rw[kq];exact ho),aa (fun z=>z.2.elim h11 ho)]
     exact q (fun _=>by cases e:(di A).one with|false=>rfl|true=>exact absurd (Bq e) ho) (fun z=>absurd h8 z)
   ·rw[aa (by lia)]at kq
    by_cases ho:A.one=true∧B.one=true
    ·rw[hr,aPos (c:=kn=true) (by rw[kq,ho.1,ho.2];rfl),aPos ⟨.inr ho.2,.inr ho.1⟩,one_num]
     exact⟨rfl,GR.num (Nat.le_refl _) (vc _ kH)⟩
    ·rw[hr,aa (c:=kn=true) (by rw[kq,Bool.and_eq_true];exact ho),aa (fun z=>ho ⟨z.2.resolve_left h11,z.1.resolve_left h8⟩)]
     exact q (fun z=>absurd z h8) (fun _ z=>ho ⟨Bq z.1,Bq z.2⟩)
def RL (u:Nat):Str:=if u=1 then "==" else if u=5 then "!=" else if u=2 then ">" else if u=3 then ">=" else if u=10 then "<" else "<="
def Un (u:Nat):Prop:=u=1∨u=5∨u=2∨u=3∨u=10∨u=11
def Cm (u:Nat):Prop:=u=1∨u=2∨u=3∨u=5∨u=6∨u=7∨u=10∨u=11∨u=12∨u=13
theorem EH {u:Nat} (h:Cm u):pV ((u:Nat):Int)=RL (Path.unsign u)∧Un (Path.unsign u):=by
 rcases h with rfl|rfl|rfl|rfl|rfl|rfl|rfl|rfl|rfl|rfl<;>exact⟨by decide+kernel,by unfold Un;decide⟩
theorem Yp {u:Nat} (h:Un u):AJ (RL u)=RL (Path.opposite u)∧Un (Path.opposite u):=by
 rcases h with rfl|rfl|rfl|rfl|rfl|rfl<;>exact⟨by decide+kernel,by unfold Un;decide⟩
theorem Ku {u:Nat} (h:Un u):uy (RL u)=RL (Path.mirror u)∧Un (Path.mirror u):=by
 rcases h with rfl|rfl|rfl|rfl|rfl|rfl<;>exact⟨by decide+kernel,by unfold Un;decide⟩
def Cut (m:S3) (o:Option (Nat×Nat)):Prop:=m.1=0∧match o with
 |some x=>m.2.1=(x.1:Int)∧m.2.2=(x.2:Int)∧x.1≤x.2
 |none=>m.2.2<m.2.1
theorem vd {m:S3} {x y:Nat} (h0:m.1=0) (h1:m.2.1=(x:Int)) (h2:m.2.2=(y:Int)):Cut m (if x≤y then some (x,y)else none):=by
 refine⟨h0,?_⟩
 by_cases h:x≤y
 ·rw[aPos h]
  exact⟨h1,h2,h⟩
 ·rw[aa h]
  show m.2.2<m.2.1
  omega
theorem eE {a b:Str}:(decide (V.str a=V.str b)=true)↔a=b:=by
 rw[decide_eq_true_eq]
 exact⟨fun h=>by injection h,fun h=>by rw[h]⟩
theorem Kv {u a b c d:Nat} (hu:Un u) (hab:a≤b) (hcd:c≤d):Cut (eK (S (numbers a b)) (RL u) (S (numbers c d))) (Path.cut u a b c d):=by
 have n1:¬((RL 5:Str)="=="):=by decide+kernel
 unfold eK
 rw[show(S (numbers a b)).2.1=(a:Int)from rfl,show(S (numbers a b)).2.2=(b:Int)from rfl,show(S (numbers c d)).2.1=(c:Int)from rfl,show(S (numbers c d)).2.2=(d:Int)from rfl]
 rcases hu with rfl|rfl|rfl|rfl|rfl|rfl
 ·rw[aPos (eE.mpr (by decide+kernel)),qj,imax]
  exact vd rfl rfl rfl
 ·rw[aa (fun z=>absurd (eE.mp z) (by decide+kernel)),aPos (eE.mpr (by decide+kernel))]
  show Cut _ (if c=d then(if a=b then(if a=c then none else some (a,b))else if a=c then some (a+1,b)else if b=c then some (a,b-1)else some (a,b))else some (a,b))
  unfold mJ
  rw[show(S (numbers a b)).2.1=(a:Int)from rfl,show(S (numbers a b)).2.2=(b:Int)from rfl,show(S (numbers c d)).2.1=(c:Int)from rfl,show(S (numbers c d)).2.2=(d:Int)from rfl]
  by_cases h:c=d
  ·rw[aPos h,aa (by simp;omega)]
   by_cases h1:a=c
   ·rw[aPos (c:=decide ((a:Int)=(c:Int))=true) (by simp;omega)]
    by_cases h2:a=b
    ·rw[aPos h2,aPos h1,aPos (by simp;omega)]
     exact⟨rfl,by show(b:Int)-1<(a:Int)+1;omega⟩
    ·rw[aa h2,aPos h1,aa (by simp;omega)]
     exact⟨rfl,rfl,rfl,by show a+1≤b;omega⟩
   ·rw[aa (c:=decide ((a:Int)=(c:Int))=true) (by simp;omega)]
    by_cases h2:a=b
    ·rw[aPos h2,aa h1,aa (by simp;omega)]
     exact⟨rfl,rfl,rfl,hab⟩
    ·rw[aa h2,aa h1]
     by_cases h3:b=c
     ·rw[aPos h3,aPos (by simp;omega)]
      exact⟨rfl,rfl,by show(b:Int)-1=((b-1:Nat):Int);omega,by show a≤b-1;omega⟩
     ·rw[aa h3,aa (by simp;omega)]
      exact⟨rfl,rfl,rfl,hab⟩
  ·rw[aa h,aPos (by simp;omega)]
   exact⟨rfl,rfl,rfl,hab⟩
 ·rw[aa (fun z=>absurd (eE.mp z) (by decide+kernel)),aa (fun z=>absurd (eE.mp z) (by decide+kernel)),aPos (eE.mpr (by decide+kernel)),show((c:Int)+1)=((c+1:Nat):Int)from rfl,imax]
  exact vd rfl rfl rfl
 ·rw[aa (fun z=>absurd (eE.mp z) (by decide+kernel)),aa (fun z=>absurd (eE.mp z) (by decide+kernel)),aa (fun z=>absurd (eE.mp z) (by decide+kernel)),aPos (eE.mpr (by decide+kernel)),imax]
  exact vd rfl rfl rfl
 ·rw[aa (fun z=>absurd (eE.mp z) (by decide+kernel)),aa (fun z=>absurd (eE.mp z) (by decide+kernel)),aa (fun z=>absurd (eE.mp z) (by decide+kernel)),aa (fun z=>absurd (eE.mp z) (by decide+kernel)),aPos (eE.mpr (by decide+kernel))]
  show Cut _ (if d=0 then none else if a≤min b (d-1)then some (a,min b (d-1))else none)
  by_cases h:d=0
  ·rw[aPos h]
   refine⟨rfl,?_⟩
   show(if(d:Int)-1<(b:Int)then(d:Int)-1 else(b:Int))<(a:Int)
   rw[aPos (by omega)]
   omega
  ·rw[aa h,show((d:Int)-1)=((d-1:Nat):Int) by omega,qj]
   exact vd rfl rfl rfl
 ·rw[aa (fun z=>absurd (eE.mp z) (by decide+kernel)),aa (fun z=>absurd (eE.mp z) (by decide+kernel)),aa (fun z=>absurd (eE.mp z) (by decide+kernel)),aa (fun z=>absurd (eE.mp z) (by decide+kernel)),aa (fun z=>absurd (eE.mp z) (by decide+kernel)),qj]
  exact vd rfl rfl rfl
theorem Kw {u a b c d:Nat} {x:Nat×Nat} (hb:b<2^64) (h:Path.cut u a b c d=some x):x.2≤b:=by
 unfold Path.cut at h
 simp only at h
 by_cases h0:u=1
 ·rw[aPos h0]at h
  obtain⟨_,rfl⟩:=jB h
  show min b d≤b
  omega
 rw[aa h0]at h
 by_cases h0:u=5
 ·rw[aPos h0]at h
  by_cases h1:c=d
  ·rw[aPos h1]at h
   by_cases h2:a=b
   ·rw[aPos h2]at h
    by_cases h3:a=c
    ·rw[aPos h3]at h;cases h
    ·rw[aa h3]at h;cases h;exact Nat.le_refl _
   ·rw[aa h2]at h
    by_cases h3:a=c
    ·rw[aPos h3]at h;cases h;exact Nat.le_refl _
    ·rw[aa h3]at h
     by_cases h4:b=c
     ·rw[aPos h4]at h;cases h;show b-1≤b;omega
     ·rw[aa h4]at h;cases h;exact Nat.le_refl _
  ·rw[aa h1]at h;cases h;exact Nat.le_refl _
 rw[aa h0]at h
 by_cases h0:u=2
 ·rw[aPos h0]at h
  obtain⟨_,rfl⟩:=jB h
  exact Nat.le_refl _
 rw[aa h0]at h
 by_cases h0:u=3
 ·rw[aPos h0]at h
  obtain⟨_,rfl⟩:=jB h
  exact Nat.le_refl _
 rw[aa h0]at h
 by_cases h0:u=10
 ·rw[aPos h0]at h
  by_cases h1:d=0
  ·rw[aPos h1]at h;cases h
  ·rw[aa h1]at h
   obtain⟨_,rfl⟩:=jB h
   show min b (d-1)≤b
   omega
 rw[aa h0]at h
 obtain⟨_,rfl⟩:=jB h
 show min b d≤b
 omega
structure GS (s:State_):Prop where
 len:s.length=75
 gr:∀r∈s,GR r
def SL (s:State_):List S3:=s.map S
theorem GS.r {s:State_} (h:GS s) (k:Nat):GR (State_.r s k):=by
 unfold State_.r
 rw[List.getD_eq_getElem?_getD]
 cases e:s[k]? with
 |none=>exact GR.any
 |some x=>exact h.gr x (List.mem_of_getElem? e)
theorem m9 {s:State_} (h:GS s) {k:Nat} (hk:k<75):(SL s).getD k (0,0,0)=S (State_.r s k):=by
 unfold SL State_.r
 have hk':k<s.length:=by rw[h.len];exact hk
 rw[List.getD_eq_getElem?_getD,List.getD_eq_getElem?_getD,List.getElem?_map,List.getElem?_eq_getElem hk']
 rfl
theorem iD (s:State_) (k:Nat) (r:Range_):(SL s).set k (S r)=SL (s.set k r):=by
 unfold SL
 rw[List.map_set]
theorem GS.set {s:State_} (h:GS s) {k:Nat} {r:Range_} (hr:GR r):GS (s.set k r):=⟨by rw[List.length_set];exact h.len,fun x hx=>(List.mem_or_eq_of_mem_set hx).elim (h.gr x) (fun e=>e▸hr)⟩
theorem ve {i:Insn} {s:State_} (h:GS s) (hs:i.src≤10):jo i (SL s)=S (i.rangeX (bitsOf i) s):=by
 unfold jo Insn.rangeX
 by_cases hr:i.reg=true
 ·rw[aPos hr,aPos hr,Int.toNat_natCast,m9 h (by omega)]
 ·rw[aa hr,aa hr,qi,gH,one_num]
theorem EI {i:Insn} {s:State_} (h:GS s):GR (i.rangeX (bitsOf i) s):=by
 unfold Insn.rangeX
 split
 ·exact h.r _
 ·refine GR.num (Nat.le_refl _) (Nat.lt_of_lt_of_le (kD _ _) (m8 (by have:=lC i;omega)))
theorem Ky {u:Nat} (h:Cm u∨u=4):(c8 iJ (Sum.inl ((u:Nat):Int))).isSome=decide (u≠4):=by
 rcases h with h|rfl
 ·rcases h with rfl|rfl|rfl|rfl|rfl|rfl|rfl|rfl|rfl|rfl<;>decide+kernel
 ·decide+kernel
theorem sign_eq (u:Nat):c7 (V.int ((u:Nat):Int)) lT=Path.signedOp u:=by
 unfold lT Path.signedOp
 simp only[kF,lB]
 rw[Bool.eq_iff_iff]
 simp
 omega
def sj (i:Insn) (A B:Range_):Prop:=¬(¬(A.kind=0∧B.kind=0∧A.hi<2^bitsOf i∧B.hi<2^bitsOf i)∨i.op=4∨(Path.signedOp i.op=true∧¬(A.hi<2^(bitsOf i-1)∧B.hi<2^(bitsOf i-1))))
theorem Yq {i:Insn} {A B:Range_} (ho:Cm i.op∨i.op=4):ig i (S A) (S B)=true↔sj i A B:=by
 unfold ig sj
 rw[Ky ho,sign_eq,qi,show(S A).1=(A.kind:Int)from rfl,show(S B).1=(B.kind:Int)from rfl,show(S A).2.2=(A.hi:Int)from rfl,show(S B).2.2=(B.hi:Int)from rfl,imax]
 have hw:=lC i
 have hp:2^(bitsOf i-1)≤2^bitsOf i:=Nat.pow_le_pow_right (by decide) (by omega)
 by_cases h4:i.op=4
 ·rw[aPos (by rw[h4];rfl)]
  simp[h4]
 ·rw[aa (by simp[h4])]
  by_cases a:A.kind=0
  ·rw[aa (by rw[a];decide)]
   by_cases b:B.kind=0
   ·rw[aa (by rw[b];decide),decide_eq_true_eq]
    cases hs:Path.signedOp i.op with
    |true=>
     rw[aPos rfl,show((bitsOf i:Nat):Int)-1=((bitsOf i-1:Nat):Int) by omega,lD]
     simp only[a,b,h4]
     simp
     omega
    |false=>
     rw[aa (by decide),lD]
     simp only[a,b,h4]
     simp
     omega
   ·rw[aPos (by simp;omega)]
    simp[b]
  ·rw[aPos (by simp;omega)]
   simp[a]
def Bu (i:Insn) (s:State_) (u:Nat):Option State_:=
 match Path.cut u (State_.r s i.dst).lo (State_.r s i.dst).hi (i.rangeX (bitsOf i) s).lo (i.rangeX (bitsOf i) s).hi,Path.cut (Path.mirror u) (i.rangeX (bitsOf i) s).lo (i.rangeX (bitsOf i) s).hi (State_.r s i.dst).lo (State_.r s i.dst).hi with
  |some a,some b=>
   if i.reg=true∧i.src=i.dst then(if max a.1 b.1≤min a.2 b.2 then some (s.set i.dst (numbers (max a.1 b.1) (min a.2 b.2)))else none)
   else if i.reg=true then some ((s.set i.dst (numbers a.1 a.2)).set i.src (numbers b.1 b.2))
   else some (s.set i.dst (numbers a.1 a.2))
  |_,_=>none
theorem EJ {i:Insn} {s:State_} {yes:Bool} (h:¬sj i (State_.r s i.dst) (i.rangeX (bitsOf i) s)):Path.way i s yes=some s:=by
 unfold Path.way
 exact aPos (Decidable.not_not.mp h)
theorem EK {i:Insn} {s:State_} {yes:Bool} (h:sj i (State_.r s i.dst) (i.rangeX (bitsOf i) s)):Path.way i s yes=Bu i s (if yes=true then Path.unsign i.op else Path.opposite (Path.unsign i.op)):=by
 unfold Path.way
 exact aa h
theorem Kz {r:Range_} (h:r.kind=0):S r=S (numbers r.lo r.hi):=by
 obtain⟨k,a,b⟩:=r
 simp only at h
 subst h
 rfl
theorem KA {m:S3} {x:Nat×Nat} (h:Cut m (some x)):m=S (numbers x.1 x.2):=by
 obtain⟨h0,h1,h2,_⟩:=h
 obtain⟨m0,m1,m2⟩:=m
 simp only at h0 h1 h2
 subst h0 h1 h2
 rfl
theorem KC {i:Insn} {s:State_} {u:Nat} (h:GS s) (hd:i.dst≤10) (hs:i.src≤10) (hu:Un u) (a0:(State_.r s i.dst).kind=0) (b0:(i.rangeX (bitsOf i) s).kind=0):p5 i (SL s) (jo i (SL s)) (RL u)=(Bu i s u).map SL∧∀t,Bu i s u=some t→GS t:=by
 have gA:=h.r i.dst
 have gB:=EI (i:=i) h
 have c1:=Kv (u:=u) hu gA.le gB.le
 have c2:=Kv (u:=Path.mirror u) (Ku hu).2 gB.le gA.le
 have l1:=fun x e=>Kw (u:=u) (a:=(State_.r s i.dst).lo) (c:=(i.rangeX (bitsOf i) s).lo) (d:=(i.rangeX (bitsOf i) s).hi) (x:=x) gA.hi e
 have l2:=fun x e=>Kw (u:=Path.mirror u) (a:=(i.rangeX (bitsOf i) s).lo) (c:=(State_.r s i.dst).lo) (d:=(State_.r s i.dst).hi) (x:=x) gB.hi e
 have ZW:=gA.hi;have ZX:=gB.hi
 unfold p5 j9 Bu
 rw[(Ku hu).1,m9 h (by omega),ve h hs,Kz a0,Kz b0]
 generalize Path.cut u _ _ _ _=o1 at c1 l1 ⊢
 generalize Path.cut (Path.mirror u) _ _ _ _=o2 at c2 l2 ⊢
 generalize eK (S (numbers (State_.r s i.dst).lo (State_.r s i.dst).hi)) (RL u) (S (numbers (i.rangeX (bitsOf i) s).lo (i.rangeX (bitsOf i) s).hi))=m1 at c1 ⊢
 generalize eK (S (numbers (i.rangeX (bitsOf i) s).lo (i.rangeX (bitsOf i) s).hi)) (RL (Path.mirror u)) (S (numbers (State_.r s i.dst).lo (State_.r s i.dst).hi))=m2 at c2 ⊢
 have ee:∀m m':S3,eK m "==" m'=(0,(if m'.2.1>m.2.1 then m'.2.1 else m.2.1),(if m'.2.2<m.2.2 then m'.2.2 else m.2.2)):=fun m m'=>by
  unfold eK
  rw[aPos (eE.mpr rfl)]
 unfold uA
 cases o1 with
 |none=>
  refine⟨?_,fun t z=>nomatch z⟩
  have q:m1.2.2<m1.2.1:=c1.2
  rw[aPos]
  ·rfl
  ·split
   ·left
    rw[ee]
    show decide (_<_)=true
    rw[decide_eq_true_eq]
    show(if m2.2.2<m1.2.2 then m2.2.2 else m1.2.2)<(if m2.2.1>m1.2.1 then m2.2.1 else m1.2.1)
    split<;>split<;>omega
   ·exact .inl (bq q)
 |some a=>
  cases o2 with
  |none=>
   refine⟨?_,fun t z=>nomatch z⟩
   have q:m2.2.2<m2.2.1:=c2.2
   rw[aPos]
   ·rfl
   ·split
    ·left
     rw[ee]
     show decide (_<_)=true
     rw[decide_eq_true_eq]
     show(if m2.2.2<m1.2.2 then m2.2.2 else m1.2.2)<(if m2.2.1>m1.2.1 then m2.2.1 else m1.2.1)
     split<;>split<;>omega
    ·exact .inr (bq q)
  |some b=>
   have v1:=KA c1
   have v2:=KA c2
   have k1:=l1 a rfl
   have k2:=l2 b rfl
   have o1:a.1≤a.2:=c1.2.2.2
   have o2:b.1≤b.2:=c2.2.2.2
   subst v1 v2
   show _=Option.map SL (if i.reg=true∧i.src=i.dst then _ else _)∧∀t,(if i.reg=true∧i.src=i.dst then _ else _)=some t→GS t
   by_cases hq:i.reg=true∧i.src=i.dst
   ·simp only[aPos hq,aPos hq.1]
    rw[ee]
    have e:(((0:Int),(if(S (numbers b.1 b.2)).2.1>(S (numbers a.1 a.2)).2.1 then(S (numbers b.1 b.2)).2.1 else(S (numbers a.1 a.2)).2.1),(if(S (numbers b.1 b.2)).2.2<(S (numbers a.1 a.2)).2.2 then(S (numbers b.1 b.2)).2.2 else(S (numbers a.1 a.2)).2.2)):S3)=S (numbers (max a.1 b.1) (min a.2 b.2)):=by
     show((0:Int),(if(b.1:Int)>(a.1:Int)then(b.1:Int)else(a.1:Int)),(if(b.2:Int)<(a.2:Int)then(b.2:Int)else(a.2:Int)))=_
     rw[imax,qj]
     rfl
    rw[e]
    have en:(decide ((S (numbers (max a.1 b.1) (min a.2 b.2))).2.2<(S (numbers (max a.1 b.1) (min a.2 b.2))).2.1)=true∨decide ((S (numbers (max a.1 b.1) (min a.2 b.2))).2.2<(S (numbers (max a.1 b.1) (min a.2 b.2))).2.1)=true)↔¬(max a.1 b.1≤min a.2 b.2):=by
     show(decide (((min a.2 b.2:Nat):Int)<((max a.1 b.1:Nat):Int))=true∨decide (((min a.2 b.2:Nat):Int)<((max a.1 b.1:Nat):Int))=true)↔_
     rw[decide_eq_true_eq]
     omega
    by_cases hm:max a.1 b.1≤min a.2 b.2
    ·rw[aa (fun z=>en.mp z hm),aPos hm]
     refine⟨?_,fun t z=>?_⟩
     ·rw[iD,hq.2,iD,List.set_set]
      rfl
     ·cases z
      exact h.set (GR.num hm (by omega))
    ·rw[aPos (en.mpr hm),aa hm]
     exact⟨rfl,fun t z=>nomatch z⟩
   ·simp only[aa hq]
    rw[aa]
    ·by_cases hr:i.reg=true
     ·rw[aPos hr,aPos hr,iD,iD]
      refine⟨rfl,fun t z=>?_⟩
      cases z
      exact(h.set (GR.num o1 (by omega))).set (GR.num o2 (by omega))
     ·rw[aa hr,aa hr,iD]
      refine⟨rfl,fun t z=>?_⟩
      cases z
      exact h.set (GR.num o1 (by omega))
    ·show ¬(decide ((a.2:Int)<(a.1:Int))=true∨decide ((b.2:Int)<(b.1:Int))=true)
     rw[decide_eq_true_eq,decide_eq_true_eq]
     omega
theorem both_eq {i:Insn} {s:State_} (h:GS s) (hd:i.dst≤10) (hs:i.src≤10) (ho:Cm i.op∨i.op=4):p7 i (SL s)=((Path.way i s true).map SL,(Path.way i s false).map SL)∧∀y t,Path.way i s y=some t→GS t:=by
 unfold p7
 have te:=Yq (A:=State_.r s i.dst) (B:=i.rangeX (bitsOf i) s) ho
 rw[m9 h (by omega),ve h hs]
 by_cases ht:sj i (State_.r s i.dst) (i.rangeX (bitsOf i) s)
 ·rw[aa (by rw[te.mpr ht];decide),EK ht,EK ht]
  have k0:(State_.r s i.dst).kind=0∧(i.rangeX (bitsOf i) s).kind=0:=by
   unfold sj at ht
   simp only[not_or,Decidable.not_not]at ht
   exact⟨ht.1.1,ht.1.2.1⟩
  have hc:Cm i.op:=ho.resolve_right fun z=>ht (.inr (.inl z))
  obtain⟨r1,r2⟩:=EH hc
  obtain⟨r3,r4⟩:=Yp r2
  rw[←ve h hs,r1,r3]
  have w1:=KC h hd hs r2 k0.1 k0.2
  have w2:=KC h hd hs r4 k0.1 k0.2
  refine⟨by rw[w1.1,w2.1];rfl,fun y t e=>?_⟩
  rw[EK ht]at e
  cases y with
  |true=>exact w1.2 t e
  |false=>exact w2.2 t e
 ·have tf:ig i (S (State_.r s i.dst)) (S (i.rangeX (bitsOf i) s))=false:=by
   cases e:ig i (S (State_.r s i.dst)) (S (i.rangeX (bitsOf i) s))with
   |false=>rfl
   |true=>exact absurd (te.mp e) ht
  rw[aPos tf,EJ ht,EJ ht]
  refine⟨rfl,fun y t e=>?_⟩
  rw[EJ ht]at e
  cases e
  exact h
theorem oF (i:Insn):i.size=4∨i.size=2∨i.size=1∨i.size=8:=by
 unfold Insn.size
 have:i.code/8%4<4:=Nat.mod_lt _ (by decide)
 generalize i.code/8%4=m at this
 match m,this with
 |0,_=>decide
 |1,_=>decide
 |2,_=>decide
 |3,_=>decide
theorem EL (i:Insn):dH i=(i.cls==3&&i.mode==192):=by
 unfold dH
 rw[Bool.eq_iff_iff]
 simp
 lia
theorem Bv {i:Insn} {s:State_} (h:GS s) (hd:i.dst≤10) (hs:i.src≤10):dI i (SL s)=S (i.base s):=by
 unfold dI Insn.base
 by_cases h1:i.cls=1
 ·rw[aPos (by rw[h1];rfl),aPos h1,Int.toNat_natCast,m9 h (by lia)]
 ·rw[aa (by simp;lia),aa h1,Int.toNat_natCast,m9 h (by lia)]
theorem Yr {i:Insn} {s:State_} (h:GS s):GR (i.base s):=h.r _
theorem ng {i:Insn} {s:State_} {q:Nat}:i.place s=some q↔(i.base s).kind=2∧((i.base s).lo:Int)+i.off=(q:Int)∧q+i.size≤512:=by
 unfold Insn.place
 constructor
 ·intro h
  obtain⟨h1,h2⟩:=jB h
  exact⟨h1.1,by lia,by lia⟩
 ·intro⟨h1,h2,h3⟩
  rw[aPos ⟨h1,by lia,by lia⟩]
  congr 1
  lia
theorem Ys {i:Insn} {b:Range_} {least:Nat}:jr i (S b) (least:Int)=true↔(b.kind=1∧0≤(b.lo:Int)+i.off∧(b.hi:Int)+i.off+(i.size:Int)≤(least:Int))∨(b.kind=2∧0≤(b.lo:Int)+i.off∧(b.hi:Int)+i.off+(i.size:Int)≤512):=by
 unfold jr
 rw[show(S b).1=(b.kind:Int)from rfl,show(S b).2.1=(b.lo:Int)from rfl,show(S b).2.2=(b.hi:Int)from rfl]
 by_cases h1:b.kind=1
 ·rw[aPos (by rw[h1];rfl)]
  simp
  lia
 ·rw[aa (by simp;lia)]
  by_cases h2:b.kind=2
  ·rw[aPos (by rw[h2];rfl)]
   simp
   lia
  ·rw[aa (by simp;lia)]
   simp
   lia
theorem KG {i:Insn} {s:State_} (least:Nat) (h:GS s) (hd:i.dst≤10) (hs:i.src≤10):mO i (SL s) (least:Int)=i.sure least s:=by
 have hb:=Yr (i:=i) h
 have hz:=oF i
 have ha:mL i (S (i.base s))=true↔(i.base s).lo=(i.base s).hi∧(((i.base s).lo:Int)+i.off)%(i.size:Int)=0:=by
  unfold mL
  rw[show(S (i.base s)).2.1=((i.base s).lo:Int)from rfl,show(S (i.base s)).2.2=((i.base s).hi:Int)from rfl]
  simp
  lia
 have hm:mO i (SL s) (least:Int)=true↔jr i (S (i.base s)) (least:Int)=true∧(mL i (S (i.base s))=true∨dH i=false):=by
  unfold mO
  rw[Bv h hd hs]
  cases jr i (S (i.base s)) (least:Int)<;>cases mL i (S (i.base s))<;>cases dH i<;>simp
 have Yt:i.sure least s=true↔((i.base s).kind=1∧0≤((i.base s).lo:Int)+i.off∧((i.base s).hi:Int)+i.off+(i.size:Int)≤(least:Int)∧(dH i=false∨((i.base s).lo=(i.base s).hi∧(((i.base s).lo:Int)+i.off)%(i.size:Int)=0)))∨(∃q,i.place s=some q∧(dH i=false∨(q:Int)%(i.size:Int)=0)):=by
  unfold Insn.sure
  rw[EL]
  simp only
  by_cases h1:(i.base s).kind=1
  ·rw[aPos h1]
   have hp:∀q,i.place s≠some q:=fun q e=>by have:=(ng.mp e).1;lia
   simp only[h1,true_and]
   have:¬∃q,i.place s=some q∧((i.cls==3&&i.mode==192)=false∨(q:Int)%(i.size:Int)=0):=fun⟨q,e,_⟩=>hp q e
   simp only[this,or_false]
   cases hx:(i.cls==3&&i.mode==192)with
   |true=>
    rw[Bool.and_eq_true]at hx
    simp[hx.1,hx.2]
   |false=>simp
  ·rw[aa h1]
   simp only[h1,false_and,false_or]
   cases hp:i.place s with
   |none=>simp
   |some q=>
    simp only[Option.some.injEq,exists_eq_left']
    cases hx:(i.cls==3&&i.mode==192)with
    |true=>
     rw[Bool.and_eq_true]at hx
     simp[hx.1,hx.2]
    |false=>
     rw[←Bool.and_assoc,hx]
     simp
 rw[Bool.eq_iff_iff,hm,Yt,ha,Ys]
 constructor
 ·rintro⟨⟨a,b,c⟩|⟨a,b,c⟩,d⟩
  ·exact .inl ⟨a,b,c,d.elim .inr .inl⟩
  ·have e:=hb.stk a
   exact .inr ⟨(((i.base s).lo:Int)+i.off).toNat,ng.mpr ⟨a,by lia,by lia⟩,d.elim (fun z=> .inr (by rw[Int.toNat_of_nonneg b];exact z.2)) .inl⟩
 ·rintro(⟨a,b,c,d⟩|⟨q,e,d⟩)
  ·exact⟨.inl ⟨a,b,c⟩,d.elim .inr .inl⟩
  ·obtain⟨a,b,c⟩:=ng.mp e
   have e:=hb.stk a
   exact⟨.inr ⟨a,by lia,by lia⟩,d.elim .inr fun z=> .inl ⟨e.1,by rw[b];exact z⟩⟩
theorem KH (v:S3):∀(ks:List Int) (l:List S3),(fm l v ks).length=l.length
 |[],_=>rfl
 |k::r,l=>by
  show(fm (l.set k.toNat v) v r).length=_
  rw[KH v r,List.length_set]
theorem KI (v:S3):∀(ks:List Int) (l:List S3) (j:Nat),j<l.length→(fm l v ks)[j]? =if ∃k∈ks,k.toNat=j then some v else l[j]?
 |[],l,j,h=>by
  rw[aa (by simp)]
  rfl
 |k::r,l,j,h=>by
  show(fm (l.set k.toNat v) v r)[j]? =_
  rw[KI v r _ j (by rw[List.length_set];exact h)]
  by_cases h1:∃k∈r,k.toNat=j
  ·rw[aPos h1,aPos (by obtain⟨x,y,z⟩:=h1;exact⟨x,List.mem_cons_of_mem _ y,z⟩)]
  ·rw[aa h1,List.getElem?_set]
   by_cases h2:k.toNat=j
   ·rw[aPos h2,aPos (c:=k.toNat<l.length) (by lia),aPos ⟨k,List.mem_cons_self,h2⟩]
   ·rw[aa h2,aa]
    rintro⟨x,y,z⟩
    rcases List.mem_cons.mp y with rfl|y
    ·exact h2 z
    ·exact h1 ⟨x,y,z⟩
theorem KJ {i:Insn} {b:Range_} {q:Nat} (hk:b.kind=2) (e:(b.lo:Int)+i.off=(q:Int)):fM i (S b)=(List.range ((q+i.size-1)/8+1-q/8)).map fun(k:Nat)=>((11+q/8+k:Nat):Int):=by
 have hz:=oF i
 unfold fM
 rw[show(S b).1=(b.kind:Int)from rfl,show(S b).2.1=(b.lo:Int)from rfl,aa (by lia),e]
 have e1:(q:Int)+(i.size:Int)-1=((q+i.size-1:Nat):Int):=by lia
 rw[e1]
 have e2:(11+((q+i.size-1:Nat):Int)/8+1-(11+(q:Int)/8)).toNat=(q+i.size-1)/8+1-q/8:=by lia
 rw[e2]
 refine List.map_congr_left fun k _=>?_
 lia
theorem Yu {i:Insn} {b:Range_} (hk:b.kind≠2):fM i (S b)=[]:=by
 unfold fM
 rw[show(S b).1=(b.kind:Int)from rfl,aPos (by lia)]
theorem Yv {i:Insn} {s:State_} {b:Range_} {q:Nat} (h:GS s) (hk:b.kind=2) (e:(b.lo:Int)+i.off=(q:Int)):fm (SL s) (S Path.any) (fM i (S b))=SL (Path.touched s q i.size):=by
 have hz:=oF i
 rw[KJ hk e]
 refine List.ext_getElem? fun j=>?_
 unfold Path.touched
 by_cases hj:j<s.length
 ·rw[KI _ _ _ _ (by unfold SL;rw[List.length_map];exact hj)]
  unfold SL
  rw[List.getElem?_map,List.getElem?_map,List.getElem?_map,List.getElem?_range hj]
  show _=some (S (if 11+q/8≤j∧j≤11+(q+i.size-1)/8 then Path.any else State_.r s j))
  by_cases hc:11+q/8≤j∧j≤11+(q+i.size-1)/8
  ·rw[aPos hc,aPos]
   refine⟨_,List.mem_map.mpr ⟨j-(11+q/8),List.mem_range.mpr (by lia),rfl⟩,by lia⟩
  ·rw[aa hc,aa]
   ·unfold State_.r
    rw[List.getD_eq_getElem?_getD,List.getElem?_eq_getElem hj]
    rfl
   ·rintro⟨x,y,z⟩
    obtain⟨k,k1,rfl⟩:=List.mem_map.mp y
    rw[List.mem_range]at k1
    lia
 ·rw[List.getElem?_eq_none (by rw[KH];unfold SL;rw[List.length_map];lia),List.getElem?_eq_none (by unfold SL;rw[List.length_map,List.length_map,List.length_range];lia)]
theorem Yw {s:State_} {q n:Nat} (h:GS s):GS (Path.touched s q n):=by
 unfold Path.touched
 refine⟨by rw[List.length_map,List.length_range];exact h.len,fun r hr=>?_⟩
 obtain⟨j,_,rfl⟩:=List.mem_map.mp hr
 split
 ·exact GR.any
 ·exact h.r _
def qk (i:Insn) (s:State_):State_:=match i.place s with
 |some q=>Path.touched s q i.size
 |none=>s
def vf (i:Insn) (s:State_):Option Nat:=match i.place s with
 |some q=>if i.size=8∧q%8=0 then some (11+q/8)else none
 |none=>none
def ql (i:Insn):Range_:=numbers 0 (256^i.size-1)
theorem Yx (i:Insn) (s:State_):Path.memory i s=if i.cls=1 then s.set i.dst (if i.mode=0x80 then Path.any else match vf i s with
  |some j=>State_.r s j
  |none=>ql i)
 else if i.cls=2∨i.mode=0x60 then(match vf i s with
  |some j=>s.set j (if i.cls=2 then numbers (inBits 64 i.imm) (inBits 64 i.imm)else State_.r s i.src)
  |none=>qk i s)
 else if i.imm=Path.CMPXCHG then(qk i s).set 0 (ql i)
 else if i.imm%2=1 then(qk i s).set i.src (ql i)
 else qk i s:=rfl
theorem KL (i:Insn):dS (8*(i.size:Int))=S (ql i):=by
 unfold ql
 rw[show(8*(i.size:Int))=((8*i.size:Nat):Int) by lia,iV,p256]
theorem EM (i:Insn):GR (ql i):=by
 have hz:=oF i
 unfold ql
 refine GR.num (Nat.zero_le _) ?_
 rcases hz with h|h|h|h<;>rw[h]<;>decide
theorem Yy {i:Insn} {s:State_} (h:GS s) (hk:(i.base s).kind=2→∃q,i.place s=some q):fm (SL s) (S Path.any) (fM i (S (i.base s)))=SL (qk i s)∧GS (qk i s):=by
 unfold qk
 cases e:i.place s with
 |some q=>
  obtain⟨a,b,c⟩:=ng.mp e
  exact⟨Yv h a b,Yw h⟩
 |none=>
  have:(i.base s).kind≠2:=fun z=>by obtain⟨q,w⟩:=hk z;rw[e]at w;cases w
  rw[Yu this]
  exact⟨rfl,h⟩
theorem Yz {i:Insn} {s:State_} (hk:(i.base s).kind=2→∃q,i.place s=some q):(ir i (S (i.base s))=true→∃q,i.place s=some q∧i.size=8∧q%8=0∧vf i s=some (11+q/8))∧(ir i (S (i.base s))=false→vf i s=none):=by
 unfold ir vf
 rw[show(S (i.base s)).1=((i.base s).kind:Int)from rfl,show(S (i.base s)).2.1=((i.base s).lo:Int)from rfl]
 by_cases h2:(i.base s).kind=2
 ·obtain⟨q,e⟩:=hk h2
  obtain⟨a,b,c⟩:=ng.mp e
  rw[aPos (by rw[h2];rfl),e,b]
  constructor
  ·intro z
   have:i.size=8∧q%8=0:=by
    simp at z
    lia
   exact⟨q,rfl,this.1,this.2,aPos this⟩
  ·intro z
   refine aa ?_
   simp at z
   lia
 ·rw[aa (by simp;lia)]
  have e:i.place s=none:=by
   cases e:i.place s with
   |none=>rfl
   |some q=>exact absurd (ng.mp e).1 h2
  rw[e]
  exact⟨fun z=>(nomatch z),fun _=>rfl⟩
theorem YA {q n:Nat} (hn:n=8) (hq:q%8=0):(q+n-1)/8+1-q/8=1:=by lia
theorem YB {i:Insn} {s:State_} {n:Option Insn} (h:GS s) (hd:i.dst≤10) (hs:i.src≤10) (hc:i.cls=1∨i.cls=2∨i.cls=3) (hn:i.known n=true) (hk:(i.base s).kind=2→∃q,i.place s=some q):uM i (SL s)=SL (Path.memory i s)∧GS (Path.memory i s):=by
 rw[Yx]
 unfold uM
 have wp:=Yz hk
 have sp:=Yy h hk
 by_cases h1:i.cls=1
 ·rw[aa (fun z=>z h1),aPos h1]
  unfold AX
  rw[Bv h hd hs,KL,any_eq]
  have mode:i.mode=96∨(i.mode=128∧i.size≠8):=by
   unfold Insn.known at hn
   rw[aa (by lia),aa (by lia),aa (by lia),aPos h1]at hn
   simp at hn
   lia
  cases e:ir i (S (i.base s))with
  |true=>
   obtain⟨q,e1,e2,e3,e4⟩:=wp.1 e
   obtain⟨a,b,c⟩:=ng.mp e1
   rw[aPos rfl,aa (by lia),e4,show(S (i.base s)).2.1=((i.base s).lo:Int)from rfl,b,show(11+(q:Int)/8).toNat=11+q/8 by lia,m9 h (by lia),iD]
   exact⟨rfl,h.set (h.r _)⟩
  |false=>
   rw[aa (by decide),wp.2 e]
   by_cases h9:i.mode=96
   ·rw[aPos h9,aa (by lia),iD]
    exact⟨rfl,h.set (EM i)⟩
   ·rw[aa h9,aPos (by lia),iD]
    exact⟨rfl,h.set GR.any⟩
 ·rw[aPos h1,aa h1]
  unfold DJ jt
  rw[Bv h hd hs,KL,any_eq,EL]
  have bit:Builtin.bitAnd i.imm 1≠0↔i.imm%2=1:=by
   rw[show(1:Int)=2^1-1 by decide,W.kbt_mask,show((2:Int)^1)=2 by decide,show((2:Int)-1)=1 by decide]
   lia
  by_cases hx:i.cls=3∧i.mode=192
  ·have ex:(i.cls==3&&i.mode==192)=true:=by simp[hx.1,hx.2]
   rw[ex,aPos (c:=true=true) rfl,aa (c:=i.cls=2∨i.mode=0x60) (by lia),sp.1]
   by_cases c1:i.imm=241
   ·rw[aPos ⟨rfl,c1⟩,aPos (c:=i.imm=Path.CMPXCHG) c1,iD]
    exact⟨rfl,sp.2.set (EM i)⟩
   ·rw[aa (fun z=>c1 z.2),aa (c:=i.imm=Path.CMPXCHG) c1]
    by_cases c2:i.imm%2=1
    ·rw[aPos ⟨rfl,bit.mpr c2⟩,aPos c2,iD]
     exact⟨rfl,sp.2.set (EM i)⟩
    ·rw[aa (fun z=>c2 (bit.mp z.2)),aa c2]
     exact⟨rfl,sp.2⟩
  ·have ex:(i.cls==3&&i.mode==192)=false:=by
    cases e:(i.cls==3&&i.mode==192)with
    |false=>rfl
    |true=>simp at e;exact absurd e hx
   have mode:i.cls=2∨i.mode=96:=by
    by_cases h2:i.cls=2
    ·exact .inl h2
    ·have h3:i.cls=3:=by lia
     unfold Insn.known at hn
     rw[aa (by lia),aa (by lia),aa (by lia),aa (by lia),aa (by lia)]at hn
     simp at hn
     lia
   rw[ex,aa (c:=false=true∧i.imm=241) (fun z=>nomatch z.1),aa (c:=false=true∧Builtin.bitAnd i.imm 1≠0) (fun z=>nomatch z.1),aa (c:=false=true) (fun z=>nomatch z),aPos mode]
   cases e:ir i (S (i.base s))with
   |true=>
    obtain⟨q,e1,e2,e3,e4⟩:=wp.1 e
    obtain⟨a,b,c⟩:=ng.mp e1
    rw[aPos rfl,e4,KJ a b,YA e2 e3]
    show(SL s).set (((11+q/8+0:Nat):Int)).toNat _=SL (s.set (11+q/8) _)∧GS (s.set (11+q/8) _)
    rw[Int.toNat_natCast,Nat.add_zero]
    by_cases h2:i.cls=2
    ·rw[aPos h2,aa (by rw[h2];decide),show((64:Int))=((64:Nat):Int)from rfl,gH,one_num,iD]
     exact⟨rfl,h.set (GR.num (Nat.le_refl _) (kD _ _))⟩
    ·have h3:i.cls=3:=by lia
     rw[aa h2,aPos (by rw[h3];rfl),Int.toNat_natCast,m9 h (by lia),iD]
     exact⟨rfl,h.set (h.r _)⟩
   |false=>
    rw[aa (by decide),wp.2 e]
    exact sp
theorem YC {s:State_} (h:GS s):AY (SL s)=SL (Path.any::(List.replicate 5 (numbers 0 0)++s.drop 6))∧GS (Path.any::(List.replicate 5 (numbers 0 0)++s.drop 6)):=by
 have hl:=h.len
 refine⟨?_,?_,fun r hr=>?_⟩
 ·match s,hl with
  |a::b::c::d::e::f::r,_=>rfl
 ·rw[List.length_cons,List.length_append,List.length_replicate,List.length_drop]
  lia
 ·rcases List.mem_cons.mp hr with rfl|hr
  ·exact GR.any
  ·rcases List.mem_append.mp hr with hr|hr
   ·rw[List.eq_of_mem_replicate hr]
    exact GR.num (Nat.le_refl _) (by decide)
   ·exact h.gr r (List.mem_of_mem_drop hr)
theorem EN (least:Nat) (hl:least≤256):rN (least:Int)=SL (Path.first least)∧GS (Path.first least):=by
 refine⟨rfl,rfl,fun r hr=>?_⟩
 unfold Path.first at hr
 obtain⟨k,_,rfl⟩:=List.mem_map.mp hr
 split
 ·exact⟨Nat.le_refl _,(by show 0<2^64;decide),(by show 1≤2;decide),fun z=>absurd z (by show ¬(1=2);decide),fun _=>(by show 0≤2^20;decide)⟩
 ·split
  ·exact GR.num hl (by decide)
  ·split
   ·exact⟨Nat.le_refl _,(by show 512<2^64;decide),(by show 2≤2;decide),fun _=>⟨rfl,(by show 512≤512;decide)⟩,fun z=>absurd z (by show ¬(2=1);decide)⟩
   ·exact GR.num (Nat.le_refl _) (by decide)
def qm (s t:State_):State_:=(List.range Path.PIECES).map fun(j:Nat)=>Path.meet (State_.r s j) (State_.r t j)
theorem KN {s t:State_} (h:GS s) (h':GS t):GS (qm s t):=by
 refine⟨by unfold qm;rw[List.length_map,List.length_range];rfl,fun r hr=>?_⟩
 unfold qm at hr
 obtain⟨j,_,rfl⟩:=List.mem_map.mp hr
 exact Yc (h.r _) (h'.r _)
theorem KO {s t:State_} (h:GS s) (h':GS t):p9 (some (SL s)) (SL t)=SL (qm s t):=by
 show((SL s).zip (SL t)).map (fun x=>gU x.1 x.2)=_
 refine List.ext_getElem? fun j=>?_
 have h1:=h.len;have h2:=h'.len
 by_cases hj:j<75
 ·unfold SL qm
  have hp:Path.PIECES=75:=rfl
  have ez:((List.map S s).zip (List.map S t))[j]? =some (S s[j],S t[j]):=List.getElem?_zip_eq_some.mpr ⟨by rw[List.getElem?_map,List.getElem?_eq_getElem (by lia)];rfl,by rw[List.getElem?_map,List.getElem?_eq_getElem (by lia)];rfl⟩
  rw[List.getElem?_map,List.getElem?_map,List.getElem?_map,List.getElem?_range (by lia),ez]
  show some (gU (S s[j]) (S t[j]))=some (S (Path.meet (State_.r s j) (State_.r t j)))
  rw[Yb (h.gr _ (List.getElem_mem _)) (h'.gr _ (List.getElem_mem _))]
  unfold State_.r
  rw[List.getD_eq_getElem?_getD,List.getD_eq_getElem?_getD,List.getElem?_eq_getElem (by lia),List.getElem?_eq_getElem (by lia)]
  rfl
 ·have hp:Path.PIECES=75:=rfl
  rw[List.getElem?_eq_none (by unfold SL;rw[List.length_map,List.length_zip,List.length_map,List.length_map];lia),List.getElem?_eq_none (by unfold SL qm;rw[List.length_map,List.length_map,List.length_range];lia)]
structure Valid (p:List Insn):Prop where
 code:EE p
 pos:0<p.length
 ok:Path.firstWrong p=none
theorem Valid.wrong {p:List Insn} (v:Valid p) {k:Nat} (hk:k<p.length):Path.wrong p k=0:=by
 have:=List.find?_eq_none.mp v.ok k (List.mem_range.mpr hk)
 simpa using this
structure iW (p:List Insn) (k:Nat) (i:Insn):Prop where
 at_:p[k]? =some i
 lt:k<p.length
 code:i.code<256
 known:i.known p[k+1]? =true
 dst:i.dst≤10
 src:i.src≤10
 leads:∀t∈i.leads k,0≤t∧Path.begins p t.toNat=true
theorem Valid.ins {p:List Insn} (v:Valid p) {k:Nat} (hb:Path.begins p k=true):iW p k (p.getD k aW):=by
 have hk:=qg hb
 have e:p[k]? =some (p.getD k aW):=by rw[List.getD_eq_getElem?_getD,List.getElem?_eq_getElem hk];rfl
 have w:=v.wrong hk
 unfold Path.wrong at w
 rw[e]at w
 simp only at w
 rw[aa (by rw[hb];decide)]at w
 generalize p.getD k aW=i at e w ⊢
 have hc:i.code<256:=by
  have:=v.code k hk
  rw[List.getD_eq_getElem?_getD,e]at this
  exact this
 by_cases h1:i.known p[k+1]? =false
 ·rw[aPos h1]at w;exact absurd w (by decide)
 rw[aa h1]at w
 by_cases h2:i.registers=false
 ·rw[aPos h2]at w;exact absurd w (by decide)
 rw[aa h2]at w
 by_cases h3:(i.leads k).all (fun(t:Int)=>decide (0≤t)&&Path.begins p t.toNat)=true
 ·have h2':i.registers=true:=by simpa using h2
  unfold Insn.registers at h2'
  simp at h2'
  refine⟨e,hk,hc,by simpa using h1,h2'.1,h2'.2.1,fun t ht=>?_⟩
  have:=List.all_eq_true.mp h3 t ht
  simpa using this
 ·rw[aa h3]at w;exact absurd w (by decide)
theorem Bw {i:Insn} {n:Option Insn} (h:i.known n=true) (hc:i.cls=7∨i.cls=4):mP i:=by
 unfold Insn.known at h
 rw[aPos hc]at h
 by_cases h8:i.op=8
 ·rw[aPos h8]at h
  simp at h
  exact⟨by lia,fun z=>by lia,fun z=>by lia,fun _ _=> .inl h.2.2.2⟩
 rw[aa h8]at h
 by_cases bK:i.op=13
 ·rw[aPos bK]at h
  simp at h
  exact⟨by lia,fun _=>by lia,fun z=>by lia,fun _ z=>absurd bK z⟩
 rw[aa bK]at h
 by_cases h11:i.op=11
 ·rw[aPos h11]at h
  simp at h
  exact⟨by lia,fun z=>by lia,fun _=>by lia,fun z _=>absurd h11 z⟩
 rw[aa h11]at h
 by_cases h3:i.op=3∨i.op=9
 ·rw[aPos h3]at h
  simp at h
  exact⟨by lia,fun z=>by lia,fun z=>by lia,fun _ _=>by lia⟩
 rw[aa h3]at h
 simp at h
 exact⟨by lia,fun z=>by lia,fun z=>by lia,fun _ _=> .inl h.2.2⟩
theorem KP {i:Insn} {n:Option Insn} (h:i.known n=true) (hj:i.jumps=true) (ho:i.op≠0) (kG:i.code<256):Cm i.op∨i.op=4:=by
 unfold Insn.jumps Insn.call Insn.ends at hj
 simp at hj
 have hc:i.cls=5∨i.cls=6:=hj.1
 unfold Insn.known at h
 rw[aa (by lia),aPos hc,aa ho]at h
 by_cases h8:i.op=8∨i.op=9
 ·rw[aPos h8]at h
  simp at h
  have hr:=(r9 i).mp h.2.1
  unfold Insn.op Insn.cls at*
  exact absurd (⟨⟨h.1,h8,hr⟩,hj.2⟩:_∧_) ((by decide+kernel:∀c<256,¬((c%8=5∧(c/16=8∨c/16=9)∧c/8%2=0)∧¬c=133∧¬c=149)) _ kG)
 ·rw[aa h8]at h
  simp at h
  unfold Cm
  exact(by decide+kernel:∀o<14,o≠0→¬(o=8∨o=9)→(o=1∨o=2∨o=3∨o=5∨o=6∨o=7∨o=10∨o=11∨o=12∨o=13)∨o=4) _ h.1 ho h8
theorem KQ {i:Insn} {n:Option Insn} (h:i.known n=true) (hj:i.jumps=true) (kG:i.code<256):(i.op=0)↔i.always=true:=by
 unfold Insn.jumps at hj
 simp at hj
 have hc:i.cls=5∨i.cls=6:=hj.1
 unfold Insn.known at h
 rw[aa (by lia),aPos hc]at h
 unfold Insn.always
 constructor
 ·intro z
  rw[aPos z]at h
  simp at h
  have hr:=(r9 i).mp h.1
  unfold Insn.op Insn.cls at*
  simp
  lia
 ·intro z
  unfold Insn.op
  simp at z
  lia
theorem Bx {i:Insn} {n:Option Insn} (h:i.known n=true) (hc:i.cls=0):i.code=24:=by
 unfold Insn.known at h
 rw[aa (by lia),aa (by lia),aPos hc]at h
 unfold Insn.wide at h
 simp at h
 exact h.1
theorem KR (i:Insn):(i.code=149)∨(i.code=133)∨i.jumps=true∨(i.cls=1∨i.cls=2∨i.cls=3)∨(i.cls=7∨i.cls=4)∨i.cls=0:=by
 have h:=uJ i
 by_cases h1:i.code=149
 ·exact .inl h1
 by_cases h2:i.code=133
 ·exact .inr (.inl h2)
 have hj:i.jumps=true↔i.cls=5∨i.cls=6:=by
  unfold Insn.jumps Insn.call Insn.ends
  simp[h1,h2]
 rw[hj]
 lia
abbrev WL:=List (Nat×State_)
def KS (ws:List Way) (l:WL):Prop:=ws.filter (fun w=>w.2.isSome)=l.map fun x=>((x.1:Int),some (SL x.2))
theorem KU {p:List Insn} {k:Nat} {i:Insn} {s:State_} (least:Nat) (v:iW p k i) (h:GS s):
  (iu i (k:Int) (SL s) (least:Int)=false→Path.ways p least k s=none)∧
  (iu i (k:Int) (SL s) (least:Int)=true→∃l,Path.ways p least k s=some l∧KS (gz p (k:Int) (SL s)) l∧∀x∈l,GS x.2∧Path.begins p x.1=true):=by
 have e:p.getD k aW=i:=by rw[List.getD_eq_getElem?_getD,v.at_];rfl
 have lead:∀t:Nat,(t:Int)∈i.leads k→Path.begins p t=true:=fun t ht=>by have:=(v.leads _ ht).2;rwa [Int.toNat_natCast]at this
 unfold Path.ways gz iu
 rw[v.at_,Int.toNat_natCast,e,Bm,Bo]
 simp only
 have mem_iff:fk i=true↔(i.cls=1∨i.cls=2∨i.cls=3):=by
  unfold fk
  simp only[kF,lB]
  simp
  lia
 have jc:i.jumps=true→i.cls=5∨i.cls=6:=fun z=>by
  unfold Insn.jumps at z
  simp at z
  exact z.1
 rcases KR i with c|c|c|c|c|c
 ·
  have hc:i.cls=5:=by unfold Insn.cls;lia
  have hj:i.jumps=false:=by unfold Insn.jumps Insn.ends;simp[c]
  have hm:fk i=false:=by
   cases e:fk i with
   |false=>rfl
   |true=>have:=mem_iff.mp e;lia
  have he:i.ends=true:=by unfold Insn.ends;simp[c]
  rw[hj,hm,aa (by decide),aa (by decide)]
  refine⟨fun z=>(nomatch z),fun _=>⟨[],?_,?_,fun x hx=>nomatch hx⟩⟩
  ·rw[aa (by lia),aPos he]
  ·rw[aPos c]
   rfl
 ·
  have hc:i.cls=5:=by unfold Insn.cls;lia
  have hj:i.jumps=false:=by unfold Insn.jumps Insn.call;simp[c]
  have hm:fk i=false:=by
   cases e:fk i with
   |false=>rfl
   |true=>have:=mem_iff.mp e;lia
  have he:i.ends=false:=by unfold Insn.ends;simp[c]
  have hcall:i.call=true:=by unfold Insn.call;simp[c]
  rw[hj,hm,aa (by decide),aa (by decide)]
  have hh:=YC h
  refine⟨fun z=>(nomatch z),fun _=>⟨_,by rw[aa (by lia),aa (by rw[he];decide),aPos hcall],?_,fun x hx=>?_⟩⟩
  ·rw[aa (by lia),aa (by lia),aPos c,hh.1]
   rfl
  ·rw[List.mem_singleton]at hx
   subst hx
   refine⟨hh.2,lead _ ?_⟩
   unfold Insn.leads Insn.behind
   have ha:i.always=false:=by unfold Insn.always;simp[c]
   have hw:i.wide=false:=by unfold Insn.wide;simp[c]
   rw[hj,he,ha,hw]
   simp
 ·
  have hc:=jc c
  have hm:fk i=false:=by
   cases e:fk i with
   |false=>rfl
   |true=>have:=mem_iff.mp e;lia
  have hn:i.ends=false∧i.call=false:=by
   unfold Insn.jumps at c
   simp at c
   exact⟨by simpa using c.2.2,by simpa using c.2.1⟩
  have n1:i.code≠149:=fun z=>by have:=hn.1;unfold Insn.ends at this;simp[z]at this
  have n2:i.code≠133:=fun z=>by have:=hn.2;unfold Insn.call at this;simp[z]at this
  have n3:i.code≠24:=fun z=>by unfold Insn.cls at hc;lia
  have hw:i.wide=false:=by unfold Insn.wide;simp[n3]
  rw[aPos c,aa (by lia),aa (by rw[hn.1];decide),aa (by rw[hn.2];decide),aPos c]
  have lt:i.target k∈i.leads k:=by
   unfold Insn.leads
   rw[aPos c]
   exact List.mem_append.mpr (.inl List.mem_cons_self)
  constructor
  ·intro z
   rw[aPos (by have:=of_decide_eq_false z;lia)]
  ·intro z
   have z:=aZ z
   rw[aa (by lia),aa n1,aa n3,aa n2,aPos c]
   have t0:=v.leads _ lt
   unfold AZ
   rw[Bo]
   have oa:=KQ v.known c v.code
   by_cases ho:i.op=0
   ·rw[aPos ho,aPos (oa.mp ho)]
    refine⟨_,rfl,?_,fun x hx=>?_⟩
    ·show[(i.target k,some (SL s))]=[(((i.target k).toNat:Int),some (SL s))]
     rw[Int.toNat_of_nonneg t0.1]
    ·rw[List.mem_singleton]at hx
     subst hx
     exact⟨h,t0.2⟩
   ·rw[aa ho,aa (fun y=>ho (oa.mpr y))]
    have b:=both_eq h v.dst v.src (KP v.known c ho v.code)
    rw[b.1]
    have l2:Path.begins p (k+1)=true:=lead (k+1) (by
     unfold Insn.leads Insn.behind
     have ha:i.always=false:=by cases e:i.always with|false=>rfl|true=>exact absurd (oa.mpr e) ho
     rw[hn.1,ha,hw]
     simp)
    refine⟨_,rfl,?_,fun x hx=>?_⟩
    ·unfold KS
     have et:i.target k=(((i.target k).toNat:Nat):Int):=by rw[Int.toNat_of_nonneg t0.1]
     cases w1:Path.way i s true<;>cases w2:Path.way i s false<;>simp[w1,w2,←et]<;>exact et
    ·rcases List.mem_append.mp hx with hx|hx
     ·rw[Option.mem_toList]at hx
      obtain⟨t,e1,e2⟩:=Option.map_eq_some_iff.mp hx
      subst e2
      exact⟨b.2 _ _ e1,t0.2⟩
     ·rw[Option.mem_toList]at hx
      obtain⟨t,e1,e2⟩:=Option.map_eq_some_iff.mp hx
      subst e2
      exact⟨b.2 _ _ e1,l2⟩
 all_goals
  have hcls:i.cls≠5∧i.cls≠6:=by lia
  have hj:i.jumps=false:=by
   cases e:i.jumps with
   |false=>rfl
   |true=>have:=jc e;lia
  have n1:i.code≠149:=fun z=>by unfold Insn.cls at hcls;lia
  have n2:i.code≠133:=fun z=>by unfold Insn.cls at hcls;lia
  have he:i.ends=false:=by unfold Insn.ends;simp[n1]
  have hcall:i.call=false:=by unfold Insn.call;simp[n2]
  have ha:i.always=false:=by
   unfold Insn.always
   unfold Insn.cls at hcls
   simp
   lia
  have lw:(((i.behind k:Nat)):Int)∈i.leads k:=by
   unfold Insn.leads
   rw[hj,he,ha]
   simp
 ·
  have n3:i.code≠24:=fun z=>by unfold Insn.cls at c;lia
  have hw:i.wide=false:=by unfold Insn.wide;simp[n3]
  have hb:i.behind k=k+1:=by unfold Insn.behind;rw[hw];rfl
  simp only[hj,he,hcall,aB,aC]
  rw[aPos (mem_iff.mpr c),KG least h v.dst v.src,aa (c:=i.cls=7∨i.cls=4) (by lia),aa (c:=i.cls=0) (by lia),aa (c:=i.code=149) n1,aa (c:=i.code=24) n3,aa (c:=i.code=133) n2,aPos (mem_iff.mpr c)]
  constructor
  ·intro z
   rw[aa (by rw[z];decide)]
  ·intro z
   rw[aPos z]
   have hk:(i.base s).kind=2→∃q,i.place s=some q:=fun z2=>by
    unfold Insn.sure at z
    simp only at z
    rw[aa (by lia)]at z
    cases e:i.place s with
    |none=>rw[e]at z;cases z
    |some q=>exact⟨q,rfl⟩
   have m:=YB h v.dst v.src c v.known hk
   refine⟨_,rfl,?_,fun x hx=>?_⟩
   ·rw[m.1]
    rfl
   ·rw[List.mem_singleton]at hx
    subst hx
    exact⟨m.2,lead _ (by rw[←hb];exact lw)⟩
 ·
  have n3:i.code≠24:=fun z=>by unfold Insn.cls at c;lia
  have hw:i.wide=false:=by unfold Insn.wide;simp[n3]
  have hb:i.behind k=k+1:=by unfold Insn.behind;rw[hw];rfl
  have hm:fk i=false:=by
   cases e:fk i with
   |false=>rfl
   |true=>have:=mem_iff.mp e;lia
  rw[hj,hm,aa (by decide),aa (by decide),aPos c,aa n1,aa n3,aa n2,aa (by decide),aa (by decide)]
  have r:=Yn i _ _ (h.r i.dst) (EI (i:=i) h) c (Bw v.known c)
  rw[m9 h (by have:=v.dst;lia),ve h v.src,r.1,iD]
  refine⟨fun z=>(nomatch z),fun _=>⟨_,rfl,rfl,fun x hx=>?_⟩⟩
  rw[List.mem_singleton]at hx
  subst hx
  exact⟨h.set r.2,lead _ (by rw[←hb];exact lw)⟩
 ·
  have n3:i.code=24:=Bx v.known c
  have hw:i.wide=true:=by unfold Insn.wide;simp[n3]
  have hb:i.behind k=k+2:=by unfold Insn.behind;rw[hw];rfl
  have hm:fk i=false:=by
   cases e:fk i with
   |false=>rfl
   |true=>have:=mem_iff.mp e;lia
  have b2:=lead (k+2) (by rw[←hb];exact lw)
  have hl:=qg b2
  rw[hj,hm,aa (by decide),aa (by decide),aa (by lia),aa (by rw[he];decide),aa (by rw[hcall];decide),aa (by decide),aPos c,aa n1,aPos n3]
  rw[Ke p k (by lia),e,one_num,iD]
  refine⟨fun z=>(nomatch z),fun _=>⟨_,rfl,rfl,fun x hx=>?_⟩⟩
  rw[List.mem_singleton]at hx
  subst hx
  refine⟨h.set (GR.num (Nat.le_refl _) ?_),b2⟩
  have q1:=kD 32 i.imm
  have q2:=kD 32 ((p[k+1]?.map fun(j:Insn)=>j.imm).getD 0)
  lia
def TS (ts:List (Option State_)):gn:=ts.map (Option.map SL)
theorem EO (ts:List (Option State_)) (k:Nat):(TS ts).getD k none=(ts.getD k none).map SL:=by
 unfold TS
 rw[List.getD_eq_getElem?_getD,List.getD_eq_getElem?_getD,List.getElem?_map]
 cases ts[k]? with
 |none=>rfl
 |some x=>rfl
theorem YD (ts:List (Option State_)) (k:Nat) (s:State_):(TS ts).set k (some (SL s))=TS (ts.set k (some s)):=by
 unfold TS
 rw[List.map_set]
 rfl
structure GT (p:List Insn) (ts:List (Option State_)):Prop where
 len:ts.length=p.length
 ok:∀k s,ts.getD k none=some s→GS s∧Path.begins p k=true
theorem YE {p:List Insn} {ts:List (Option State_)} (g:GT p ts) {x:Nat×State_} (h:GS x.2) (hb:Path.begins p x.1=true):gC (TS ts) ((x.1:Int),some (SL x.2))=TS (Path.arrive ts x)∧GT p (Path.arrive ts x):=by
 have key:∃s,GS s∧Path.arrive ts x=ts.set x.1 (some s)∧p9 ((TS ts).getD x.1 none) (SL x.2)=SL s:=by
  unfold Path.arrive
  rw[EO]
  cases e:ts.getD x.1 none with
  |none=>exact⟨x.2,h,rfl,rfl⟩
  |some s=>exact⟨qm s x.2,KN (g.ok _ _ e).1 h,rfl,KO (g.ok _ _ e).1 h⟩
 obtain⟨s,h1,h2,h3⟩:=key
 refine⟨?_,?_⟩
 ·show(TS ts).set ((x.1:Nat):Int).toNat (some (p9 ((TS ts).getD ((x.1:Nat):Int).toNat none) (SL x.2)))=_
  rw[Int.toNat_natCast,h3,YD,h2]
 ·rw[h2]
  refine⟨by rw[List.length_set];exact g.len,fun k t e=>?_⟩
  rw[List.getD_eq_getElem?_getD,List.getElem?_set]at e
  by_cases hk:x.1=k
  ·subst hk
   rw[aPos rfl]at e
   split at e
   ·cases e
    exact⟨h1,hb⟩
   ·cases e
  ·rw[aa hk,←List.getD_eq_getElem?_getD]at e
   exact g.ok _ _ e
theorem fold_filter (ws:List Way):∀ts:gn,ws.foldl gC ts=(ws.filter fun w=>w.2.isSome).foldl gC ts:=by
 induction ws with
 |nil=>intro ts;rfl
 |cons w r ih=>
  intro ts
  obtain⟨a,o⟩:=w
  cases o with
  |none=>
   rw[List.foldl_cons,List.filter_cons_of_neg (by simp),ih]
   rfl
  |some l=>rw[List.foldl_cons,List.filter_cons_of_pos rfl,List.foldl_cons,ih]
theorem fold_eq {p:List Insn}:∀(l:WL) (ts:List (Option State_)),GT p ts→(∀x∈l,GS x.2∧Path.begins p x.1=true)→(l.map fun x=>(((x.1:Nat):Int),some (SL x.2))).foldl gC (TS ts)=TS (l.foldl Path.arrive ts)∧GT p (l.foldl Path.arrive ts)
 |[],ts,g,_=>⟨rfl,g⟩
 |x::r,ts,g,h=>by
  have a:=YE g (h x List.mem_cons_self).1 (h x List.mem_cons_self).2
  rw[List.map_cons,List.foldl_cons,List.foldl_cons,a.1]
  exact fold_eq r _ a.2 fun y hy=>h y (List.mem_cons_of_mem _ hy)
def ER (p:List Insn) (least k:Nat) (t:List (Option State_)×List Nat):List (Option State_)×List Nat:=match t.1.getD k none with
  |none=>t
  |some s=>match Path.ways p least k s with
   |none=>(t.1,t.2++[k])
   |some l=>(l.foldl Path.arrive t.1,t.2)
theorem KW (p:List Insn) (least:Nat) (k:Nat):∀(l:List Nat) (t:List (Option State_)×List Nat),Path.walk p least (l++[k]) t=ER p least k (Path.walk p least l t)
 |[],t=>rfl
 |x::r,t=>by
  show Path.walk p least (r++[k]) _=ER p least k (Path.walk p least r _)
  exact KW p least k r _
def By (p:List Insn) (least:Nat):List (Option State_)×List Nat:=((some (Path.first least)::List.replicate (p.length-1) none),[])
theorem ES {p:List Insn} (h:0<p.length):Path.begins p 0=true:=by
 match p,h with
 |i::r,_=>rfl
theorem KY {p:List Insn} (v:Valid p) (least:Nat) (hl:least≤256):∀n,n≤p.length→cH p (least:Int) n=(TS (Path.walk p least (List.range n) (By p least)).1,(Path.walk p least (List.range n) (By p least)).2.head?)∧GT p (Path.walk p least (List.range n) (By p least)).1
 |0,_=>by
  have f:=EN least hl
  refine⟨?_,?_,fun k s e=>?_⟩
  ·show((List.replicate p.length none).set 0 (some (rN (least:Int))),none)=(TS (some (Path.first least)::List.replicate (p.length-1) none),none)
   rw[f.1]
   congr 1
   obtain⟨m,hm⟩:∃m,p.length=m+1:=⟨p.length-1,by have:=v.pos;lia⟩
   rw[hm]
   show some (SL (Path.first least))::List.replicate m none=some (SL (Path.first least))::(List.replicate m none).map (Option.map SL)
   rw[List.map_replicate]
   rfl
  ·show(some (Path.first least)::List.replicate (p.length-1) none).length=_
   rw[List.length_cons,List.length_replicate]
   have:=v.pos
   lia
  ·have e:(some (Path.first least)::List.replicate (p.length-1) none).getD k none=some s:=e
   cases k with
   |zero=>
    cases e
    exact⟨f.2,ES v.pos⟩
   |succ k=>
    rw[List.getD_cons_succ,List.getD_eq_getElem?_getD,List.getElem?_replicate]at e
    split at e<;>cases e
 |n+1,hn=>by
  obtain⟨ih,g⟩:=KY v least hl n (by lia)
  rw[List.range_succ,KW]
  generalize Path.walk p least (List.range n) (By p least)=t at ih g
  show qa p (least:Int) n (cH p (least:Int) n)=_∧_
  rw[ih]
  unfold qa ER
  simp only
  rw[EO]
  cases e:t.1.getD n none with
  |none=>exact⟨rfl,g⟩
  |some s=>
   obtain⟨gs,hb⟩:=g.ok _ _ e
   have iv:=v.ins hb
   have w:=KU least iv gs
   show(if iu (p.getD n aW) (n:Int) (SL s) (least:Int)=true then _ else _)=_∧_
   cases eg:iu (p.getD n aW) (n:Int) (SL s) (least:Int)with
   |false=>
    rw[aa (by decide)]
    simp only[w.1 eg]
    refine⟨?_,g⟩
    congr 1
    cases t.2 with
    |nil=>rfl
    |cons a b=>rfl
   |true=>
    obtain⟨l,w1,w2,w3⟩:=w.2 eg
    rw[aPos rfl]
    simp only[w1]
    have q:=fold_eq l t.1 g w3
    rw[fold_filter,w2,q.1]
    exact⟨rfl,q.2⟩
theorem ET {p:List Insn} (v:Valid p) (least:Nat) (hl:least≤256):cH p (least:Int) p.length=(TS (Path.told p least).1,(Path.told p least).2.head?)∧GT p (Path.told p least).1:=KY v least hl p.length (Nat.le_refl _)
def GG (p:List Insn) (k:Nat) (l:List S3):Prop:=Path.begins p k=true∧∃s,GS s∧l=SL s
theorem KZ {r:Range_} (h:GR r):jZ (S r):=by
 have h1:=h.le;have h2:=h.hi
 refine⟨(by show(0:Int)≤(r.lo:Int);lia),(by show(r.lo:Int)≤(r.hi:Int);lia),?_⟩
 show(r.hi:Int)<2^64
 rw[←fZ]
 exact_mod_cast h2
theorem EU {i:Insn} (fN:i.code=24) (k:Nat):((k+2:Nat):Int)∈i.leads k:=by
 unfold Insn.leads Insn.behind
 have hw:i.wide=true:=by unfold Insn.wide;simp[fN]
 have h1:i.jumps=false:=by unfold Insn.jumps Insn.cls;simp[fN]
 have h2:i.ends=false:=by unfold Insn.ends;simp[fN]
 have h3:i.always=false:=by unfold Insn.always;simp[fN]
 rw[h1,h2,h3,hw]
 simp
theorem YF (i:Insn):fk i=true↔(i.cls=1∨i.cls=2∨i.cls=3):=by
 unfold fk
 simp only[kF,lB]
 simp
 lia
theorem YG {i:Insn} (z:i.jumps=true):i.cls=5∨i.cls=6:=by
 unfold Insn.jumps at z
 simp at z
 exact z.1
theorem YH {p:List Insn} (v:Valid p) (least:Nat) (hl:least≤256):A6 p (least:Int) (GG p):=by
 refine⟨⟨ES v.pos,_,(EN least hl).2,(EN least hl).1⟩,?_,?_,?_⟩
 ·rintro k l hk ⟨hb,s,gs,rfl⟩ good
  have iv:=v.ins hb
  have vg:((k:Nat):Int).toNat=k:=Int.toNat_natCast _
  have jc:=fun z=>YG (i:=p.getD k aW) z
  have mem_iff:=YF (p.getD k aW)
  refine⟨⟨by lia,by lia⟩,?_,?_,?_,?_,?_,?_⟩
  ·rw[vg]
   intro fN
   have:=(iv.leads ((k+2:Nat):Int) (EU fN k)).2
   rw[Int.toNat_natCast]at this
   have:=qg this
   lia
  ·rw[vg]
   intro hm
   have c:=mem_iff.mp hm
   rw[Bv gs iv.dst iv.src]
   intro k2
   have ZY:((p.getD k aW).base s).kind=2:=by
    have:(((p.getD k aW).base s).kind:Int)=2:=k2
    lia
   unfold iu at good
   rw[Bm]at good
   have hj:(p.getD k aW).jumps=false:=by
    cases e:(p.getD k aW).jumps with
    |false=>rfl
    |true=>have:=jc e;lia
   rw[hj,aa (by decide),aPos hm,KG least gs iv.dst iv.src]at good
   unfold Insn.sure at good
   simp only at good
   rw[aa (by lia)]at good
   cases e:(p.getD k aW).place s with
   |none=>rw[e]at good;cases good
   |some q=>
    obtain⟨_,b,c⟩:=ng.mp e
    show 0≤(((p.getD k aW).base s).lo:Int)+_∧(((p.getD k aW).base s).lo:Int)+_+_≤512
    rw[b]
    lia
  ·rw[vg]
   exact fun c=>Bw iv.known c
  ·rw[vg]
   intro n1 n2 n3 n4 n5
   rw[Bm]at n4
   rcases KR (p.getD k aW)with c|c|c|c|c|c
   ·exact absurd c n1
   ·exact absurd c n3
   ·rw[c]at n4;cases n4
   ·rw[mem_iff.mpr c]at n5;cases n5
   ·exact c
   ·exact absurd (Bx iv.known c) n2
  ·intro x hx
   unfold SL at hx
   obtain⟨r,hr,rfl⟩:=List.mem_map.mp hx
   exact KZ (gs.gr r hr)
  ·rw[vg]
   intro _
   rw[ve gs iv.src]
   exact KZ (EI gs)
 ·rintro k l w l' hk ⟨hb,s,gs,rfl⟩ good hw hl'
  obtain⟨L,w1,w2,w3⟩:=(KU least (v.ins hb) gs).2 good
  have hm:w∈(gz p (k:Int) (SL s)).filter (fun w=>w.2.isSome):=List.mem_filter.mpr ⟨hw,by rw[hl'];rfl⟩
  rw[w2]at hm
  obtain⟨x,hx,rfl⟩:=List.mem_map.mp hm
  obtain⟨g1,g2⟩:=w3 x hx
  have:=qg g2
  refine⟨by show(0:Int)≤(x.1:Int);lia,by show(x.1:Int)<_;lia,?_⟩
  show GG p ((x.1:Nat):Int).toNat l'
  rw[Int.toNat_natCast]
  refine⟨g2,x.2,g1,?_⟩
  cases hl'
  rfl
 ·rintro k l l' ⟨hb,s,gs,rfl⟩ ⟨_,t,gt,rfl⟩
  exact⟨hb,_,KN gs gt,KO gs gt⟩
def B8 (b:Bytes):List Int:=b.map fun(c:UInt8)=>((c.toNat:Nat):Int)
theorem gZ (b:Bytes):(B8 b).length=b.length:=by unfold B8;rw[List.length_map]
theorem K0 (b:Bytes):AllB (B8 b):=fun z hz=>by
 unfold B8 at hz
 obtain⟨c,_,rfl⟩:=List.mem_map.mp hz
 have:=c.toNat_lt
 lia
theorem YI {b:Bytes} {j:Nat} (h:j<b.length):(B8 b).getD j 0=((b[j].toNat:Nat):Int):=by
 unfold B8
 rw[List.getD_eq_getElem?_getD,List.getElem?_map,List.getElem?_eq_getElem h]
 rfl
theorem K1 (c:UInt8):∀l:Bytes,Path.little (l++[c])=Path.little l+256^l.length*c.toNat
 |[]=>by
  show c.toNat+256*0=0+256^0*c.toNat
  lia
 |a::r=>by
  rw[List.cons_append,u7,u7,K1 c r,List.length_cons,Nat.pow_succ,Nat.mul_add,Nat.mul_comm (256^r.length) 256,Nat.mul_assoc]
  lia
theorem EV:∀l:Bytes,Path.little l<256^l.length
 |[]=>by decide
 |c::r=>by
  rw[u7,List.length_cons,Nat.pow_succ]
  have:=c.toNat_lt
  have:=EV r
  lia
theorem EW (bs:Bytes) (i:Nat):∀n,i+n≤bs.length→rQ (B8 bs) i n=((Path.little ((bs.drop i).take n):Nat):Int)
 |0,_=>rfl
 |n+1,h=>by
  show Builtin.bitOr (rQ (B8 bs) i n) ((B8 bs).getD (i+n) 0*2^((8:Int)*((0:Int)+(n:Int))).toNat)=_
  have hl:((bs.drop i).take n).length=n:=by rw[List.length_take,List.length_drop];lia
  have ht:(bs.drop i).take (n+1)=(bs.drop i).take n++[bs[i+n]]:=by
   rw[List.take_add_one,List.getElem?_drop,List.getElem?_eq_getElem (by lia)]
   rfl
  rw[EW bs i n (by lia),EB,YI (by lia),ht,K1,hl,←fZ (8*n),←Int.natCast_mul,r8,Nat.or_comm,EC _ _ _ (by rw[p256];have:=EV ((bs.drop i).take n);rw[hl]at this;exact this),p256]
  congr 1
  rw[Nat.mul_comm,Nat.add_comm]
theorem K2 (z:Int) (n k:Nat) (h:k<n):(z/2^(8*k))%256=((inBits (8*n) z/256^k%256:Nat):Int):=by
 have e:=qh (8*n) z
 generalize inBits (8*n) z=r at e
 have hz:z=(r:Int)+z/2^(8*n)*2^(8*n):=by
  rw[e,Int.mul_comm]
  exact(Int.emod_add_mul_ediv z (2^(8*n))).symm
 generalize z/2^(8*n)=q at hz
 have hp:(2:Int)^(8*n)=2^(8*(n-k-1))*256*2^(8*k):=by
  rw[show(256:Int)=2^8 by decide,←Int.pow_add,←Int.pow_add]
  congr 1
  lia
 rw[hz,hp,←Int.mul_assoc,Int.add_mul_ediv_right _ _ (by have:(0:Int)<2^(8*k):=Int.pow_pos (by decide);lia),←Int.mul_assoc,Int.add_mul_emod_self_right,←fZ,p256]
 rw[Int.natCast_emod,Int.natCast_ediv]
 rfl
theorem EX (z:Int) (i:Nat):∀(n:Nat) (bs:List Int),(putN bs i z n).length=bs.length
 |0,_=>rfl
 |n+1,bs=>by
  show((putN bs i z n).set (i+n) _).length=_
  rw[List.length_set,EX z i n]
theorem K3 (z:Int) (i:Nat):∀(n:Nat) (bs:List Int) (j:Nat),j<bs.length→(putN bs i z n)[j]? =if i≤j∧j<i+n then some (z/2^(8*(j-i))%256)else bs[j]?
 |0,bs,j,h=>by
  rw[aa (by lia)]
  rfl
 |n+1,bs,j,h=>by
  show((putN bs i z n).set (i+n) (Builtin.bitAnd (z/2^((8:Int)*((0:Int)+(n:Int))).toNat) 255))[j]? =_
  rw[List.getElem?_set,EB,EX]
  by_cases hj:i+n=j
  ·rw[aPos hj,aPos (by lia),aPos (by lia),show(255:Int)=2^8-1 by decide,W.kbt_mask,show(2:Int)^8=256 by decide,show j-i=n by lia]
  ·rw[aa hj,K3 z i n bs j h]
   by_cases hc:i≤j∧j<i+n
   ·rw[aPos hc,aPos (by lia)]
   ·rw[aa hc,aa (by lia)]
theorem K4 (n v:Nat):(littleOf n v).length=n:=by unfold littleOf;rw[List.length_map,List.length_range]
theorem EY {bs:Bytes} {i n v:Nat} (h:i+n≤bs.length):(Path.over bs i (littleOf n v)).length=bs.length:=by
 unfold Path.over
 rw[List.length_append,List.length_append,List.length_take,List.length_drop,K4]
 lia
theorem K5 (bs:Bytes) (i n:Nat) (z:Int) (v:Nat) (hv:inBits (8*n) z=inBits (8*n) (v:Int)) (h:i+n≤bs.length):putN (B8 bs) i z n=B8 (Path.over bs i (littleOf n v)):=by
 refine List.ext_getElem? fun j=>?_
 by_cases hj:j<bs.length
 ·rw[K3 _ _ _ _ _ (by rw[gZ];exact hj)]
  unfold B8 Path.over
  rw[List.getElem?_map,List.getElem?_map,List.getElem?_append,List.getElem?_append,List.length_append,List.length_take,K4,Nat.min_eq_left (by lia)]
  by_cases h1:j<i
  ·rw[aa (by lia),aPos (by lia),aPos h1,List.getElem?_take_of_lt h1]
  ·by_cases h2:j<i+n
   ·rw[aPos (by lia),aPos h2,aa h1,K2 z n (j-i) (by lia),hv,←K2 _ n (j-i) (by lia),←fZ,p256,←Int.natCast_ediv]
    unfold littleOf
    rw[List.getElem?_map,List.getElem?_range (by lia)]
    show some ((v/256^(j-i):Nat)%(256:Int))=some (((UInt8.ofNat (v/256^(j-i)%256)).toNat:Nat):Int)
    rw[Ka,Int.natCast_emod]
    rfl
   ·rw[aa (by lia),aa h2,List.getElem?_drop]
    congr 2
    lia
 ·rw[List.getElem?_eq_none (by rw[EX,gZ];lia),List.getElem?_eq_none (by rw[gZ,EY h];lia)]
theorem K6 {m:Path.M} {r:RS} {i:Insn} (g:Nat) (hg:g<2^64) (ho: -32768≤i.off∧i.off<32768) (hd:r.data.length=m.data.length) (hs:r.stack.length=512) (hdl:m.data.length≤256):
  (ko r ((g:Int)+i.off) (i.size:Int)=none∧m.at_ (inBits 64 ((g:Int)+i.off)) i.size=none)∨
  ∃w q,ko r ((g:Int)+i.off) (i.size:Int)=some w∧m.at_ (inBits 64 ((g:Int)+i.off)) i.size=some (w,q)∧(g:Int)+i.off=baseOf w+(q:Int)∧inBits 64 ((g:Int)+i.off)=((g:Int)+i.off).toNat∧q+i.size≤(if w=true then m.data.length else 512):=by
 have hz:=oF i
 have e:=qh 64 ((g:Int)+i.off)
 have ha: -32768≤(g:Int)+i.off∧(g:Int)+i.off<18446744073709551616+32768:=by lia
 generalize (g:Int)+i.off=a at*
 generalize inBits 64 a=b at*
 rw[show(2:Int)^64=18446744073709551616 by rfl]at e
 have hb:(0≤a∧(b:Int)=a)∨(a<0∧18446744073709000000<b)∨(18446744073709551616≤a∧b<40000):=by lia
 have c1:k8 4294967296 r.data.length a (i.size:Int)=true↔4294967296≤a∧a+(i.size:Int)≤4294967296+(m.data.length:Int):=by
  unfold k8
  rw[hd]
  simp
 have c2:k8 8589934080 r.stack.length a (i.size:Int)=true↔8589934080≤a∧a+(i.size:Int)≤8589934080+512:=by
  unfold k8
  rw[hs]
  simp
 unfold ko Path.M.at_
 rw[show Path.DATA=4294967296 from rfl,show Path.TOP=8589934592 from rfl,show Path.STACK=512 from rfl]
 by_cases h1:4294967296≤a∧a+(i.size:Int)≤4294967296+(m.data.length:Int)
 ·refine .inr ⟨true,b-4294967296,by rw[aPos (c1.mpr h1)],by rw[aPos (by lia)],?_,by lia,?_⟩
  ·show a=4294967296+((b-4294967296:Nat):Int)
   lia
  ·rw[aPos rfl]
   lia
 ·by_cases h2:8589934080≤a∧a+(i.size:Int)≤8589934080+512
  ·refine .inr ⟨false,b-(8589934592-512),by rw[aa (fun z=>h1 (c1.mp z)),aPos (c2.mpr h2)],by rw[aa (by lia),aPos (by lia)],?_,by lia,?_⟩
   ·show a=8589934080+((b-(8589934592-512):Nat):Int)
    lia
   ·rw[aa (by decide)]
    lia
  ·refine .inl ⟨by rw[aa (fun z=>h1 (c1.mp z)),aa (fun z=>h2 (c2.mp z))],by rw[aa (by lia),aa (by lia)]⟩
def RI (l:List Nat):List Int:=l.map fun(n:Nat)=>(n:Int)
theorem EZ (l:List Nat) (k:Nat):(RI l).getD k 0=((l.getD k 0:Nat):Int):=by
 unfold RI
 rw[List.getD_eq_getElem?_getD,List.getD_eq_getElem?_getD,List.getElem?_map]
 cases l[k]? <;>rfl
theorem sr (l:List Nat) (k v:Nat):(RI l).set k (v:Int)=RI (l.set k v):=by unfold RI;rw[List.map_set]
def bu (hl:List Int) (a:Path.At) (en:Option Int):RS:=⟨RI a.m.regs,B8 a.m.data,B8 a.m.stack,hl,a.asks.map askTold,(a.k:Int),en⟩
structure GM (m:Path.M):Prop where
 reg:m.regs.length=11
 lt:∀v∈m.regs,v<2^64
 stk:m.stack.length=512
 dat:m.data.length≤256
theorem GM.r {m:Path.M} (h:GM m) (k:Nat):m.r k<2^64:=by
 unfold Path.M.r
 rw[List.getD_eq_getElem?_getD]
 cases e:m.regs[k]? with
 |none=>exact Nat.pow_pos (by decide)
 |some v=>exact h.lt v (List.mem_of_getElem? e)
theorem GM.set {m:Path.M} (h:GM m) {k v:Nat} (hv:v<2^64):GM (m.set k v):=⟨by show(m.regs.set k v).length=_;rw[List.length_set];exact h.reg,fun x hx=>(List.mem_or_eq_of_mem_set hx).elim (h.lt x) (fun e=>e▸hv),h.stk,h.dat⟩
structure GA (p:List Insn) (hs:List (Nat×Int)) (a:Path.At):Prop where
 m:GM a.m
 E1:Path.begins p a.k=true
 left:a.left=hs.drop a.asks.length
 ask:∀q∈a.asks,q.args.length=5
def YJ (hl:List Int):Path.Next→RS
 | .go b=>bu hl b none
 | .halt_ z _ b=>bu hl b (some z)
theorem K7 (w:Nat) (z:Int) (h:w≤64):inBits 64 z%2^w=inBits w z:=by
 have e1:=qh 64 z
 have e2:=qh w z
 have:((inBits 64 z%2^w:Nat):Int)=((inBits w z:Nat):Int):=by
  rw[Int.natCast_emod,e1,e2,fZ]
  exact Int.emod_emod_of_dvd _ (by rw[←fZ,←fZ];exact_mod_cast Nat.pow_dvd_pow 2 h)
 exact_mod_cast this
def xw (i:Insn) (m:Path.M):Nat:=if i.reg=true then m.r i.src else inBits 64 i.imm
theorem K8 (hl:List Int) (a:Path.At) (en:Option Int) (i:Insn):kr (bu hl a en) i=((xw i a.m:Nat):Int):=by
 unfold kr xw
 by_cases h:i.reg=true
 ·rw[aPos h,aPos h]
  exact EZ _ _
 ·rw[aa h,aa h,show(18446744073709551615:Int)=bJ ((64:Nat):Int) by decide,gH]
theorem E2 (i:Insn) (m:Path.M) (w:Nat) (h:w≤64):xw i m%2^w=i.x w m:=by
 unfold xw Insn.x
 by_cases hr:i.reg=true
 ·rw[aPos hr,aPos hr]
 ·rw[aa hr,aa hr,K7 w _ h]
theorem oG (hl:List Int) (a:Path.At) (en:Option Int) (k:Nat):(bu hl a en).regs.getD k 0=((a.m.r k:Nat):Int):=EZ _ _
theorem YK {u:Nat} (h:Un u) (a b:Int):jX (RL u) a b=if u=1 then decide (a=b)else if u=5 then !decide (a=b)else if u=2 then decide (b<a)else if u=3 then decide (b≤a)else if u=10 then decide (a<b)else decide (a≤b):=by
 unfold jX
 have y:∀{x y:Str},x=y→(decide (V.str x=V.str y)=true):=fun e=>eE.mpr e
 have n:∀{x y:Str},¬x=y→¬(decide (V.str x=V.str y)=true):=fun e z=>e (eE.mp z)
 rcases h with rfl|rfl|rfl|rfl|rfl|rfl
 ·rw[aPos (y (by decide+kernel))];rfl
 ·rw[aa (n (by decide+kernel)),aPos (y (by decide+kernel))];rfl
 ·rw[aa (n (by decide+kernel)),aa (n (by decide+kernel)),aPos (y (by decide+kernel))];rfl
 ·rw[aa (n (by decide+kernel)),aa (n (by decide+kernel)),aa (n (by decide+kernel)),aPos (y (by decide+kernel))];rfl
 ·rw[aa (n (by decide+kernel)),aa (n (by decide+kernel)),aa (n (by decide+kernel)),aa (n (by decide+kernel)),aPos (y (by decide+kernel))];rfl
 ·rw[aa (n (by decide+kernel)),aa (n (by decide+kernel)),aa (n (by decide+kernel)),aa (n (by decide+kernel)),aa (n (by decide+kernel))];rfl
theorem E3 (a b:Nat):decide ((a:Int)=(b:Int))=(a==b):=by
 rw[Bool.eq_iff_iff];simp;lia
theorem YL {i:Insn} (ho:Cm i.op∨i.op=4) (d x:Nat):gW i (d:Int) (x:Int)=Path.compares (bitsOf i) i.op (d%2^bitsOf i) (x%2^bitsOf i):=by
 unfold gW
 have hw:0<bitsOf i:=by have:=lC i;lia
 rw[Ky ho,sign_eq,qi,kE _ _ hw,kE _ _ hw,jA,jA,←EA _ d _ (Nat.le_refl _),←EA _ x _ (Nat.le_refl _)]
 generalize d%2^bitsOf i=A
 generalize x%2^bitsOf i=B
 generalize bitsOf i=w
 rcases ho with h|h
 ·rw[(EH h).1,aPos (by rw[decide_eq_true_eq];unfold Cm at h;lia),YK (EH h).2]
  generalize i.op=o at h
  rcases h with rfl|rfl|rfl|rfl|rfl|rfl|rfl|rfl|rfl|rfl
  ·show decide ((A:Int)=(B:Int))=(A==B)
   exact E3 _ _
  ·show decide ((B:Int)<(A:Int))=decide (B<A)
   exact decide_eq_decide.mpr (by lia)
  ·show decide ((B:Int)≤(A:Int))=decide (B≤A)
   exact decide_eq_decide.mpr (by lia)
  ·show(!decide ((A:Int)=(B:Int)))=(A != B)
   rw[E3]
   rfl
  ·rfl
  ·rfl
  ·show decide ((A:Int)<(B:Int))=decide (A<B)
   exact decide_eq_decide.mpr (by lia)
  ·show decide ((A:Int)≤(B:Int))=decide (A≤B)
   exact decide_eq_decide.mpr (by lia)
  ·rfl
  ·rfl
 ·rw[h]
  show(!decide (Builtin.bitAnd (A:Int) (B:Int)=0))=((A&&& B) != 0)
  rw[Bl,show(0:Int)=((0:Nat):Int)from rfl,E3]
  rfl
theorem K9 (hl:List Int) (a:Path.At) (en:Option Int) (w:Bool) (q n:Nat) (z:Int) (hz:z=baseOf w+(q:Int)) (g:GM a.m) (h:q+n≤(if w=true then a.m.data.length else 512)):iz (bu hl a en) w z (n:Int)=((a.m.load (w,q) n:Nat):Int):=by
 unfold iz Path.M.load
 rw[show(z-baseOf w).toNat=q by lia,Int.toNat_natCast]
 have hs:=g.stk
 cases w with
 |true=>
  rw[aPos rfl]at h
  exact EW a.m.data q n h
 |false=>
  rw[aa (by decide)]at h
  exact EW a.m.stack q n (by lia)
theorem YM (hl:List Int) (a:Path.At) (en:Option Int) (w:Bool) (q n:Nat) (z x:Int) (v:Nat) (hz:z=baseOf w+(q:Int)) (g:GM a.m) (h:q+n≤(if w=true then a.m.data.length else 512)) (hv:inBits (8*n) x=inBits (8*n) (v:Int)):gF (bu hl a en) w z (n:Int) x=bu hl {a with m:=a.m.store (w,q) n v} en∧GM (a.m.store (w,q) n v):=by
 unfold gF Path.M.store
 rw[show(z-baseOf w).toNat=q by lia,Int.toNat_natCast]
 have hs:=g.stk
 cases w with
 |true=>
  rw[aPos rfl]at h
  refine⟨?_,g.reg,g.lt,g.stk,?_⟩
  ·show RS.mk (RI a.m.regs) (putN (B8 a.m.data) q x n) (B8 a.m.stack) hl _ _ en=_
   rw[K5 a.m.data q n x v hv h]
   rfl
  ·show(Path.over a.m.data q (littleOf n v)).length≤256
   rw[EY h]
   exact g.dat
 |false=>
  rw[aa (by decide)]at h
  refine⟨?_,g.reg,g.lt,?_,g.dat⟩
  ·show RS.mk (RI a.m.regs) (B8 a.m.data) (putN (B8 a.m.stack) q x n) hl _ _ en=_
   rw[K5 a.m.stack q n x v hv (by lia)]
   rfl
  ·show(Path.over a.m.stack q (littleOf n v)).length=512
   rw[EY (by lia)]
   exact hs
theorem La {m:Path.M} {q:Bool×Nat} {n:Nat} (hn:n≤8):m.load q n<2^(8*n):=by
 unfold Path.M.load
 have:=EV (((if q.1=true then m.data else m.stack).drop q.2).take n)
 rw[p256]
 refine Nat.lt_of_lt_of_le this (Nat.pow_le_pow_right (by decide) ?_)
 rw[List.length_take]
 lia
theorem E4:∀(l:List Int) (hs:List (Nat×Int)),helpersIn l=some hs→l.length=2*hs.length∧(∀n,fB l n=match hs[n]? with|some x=>((x.1:Int),x.2)|none=>(0,0))∧∀x∈hs,x.1<2^64
 |[],hs,h=>by
  cases h
  exact⟨rfl,fun n=>rfl,fun x hx=>nomatch hx⟩
 |[r],hs,h=>nomatch h
 |r::c::l,hs,h=>by
  have h:(if r<0∨2^64≤r then none else(helpersIn l).map fun(h:List (Nat×Int))=>(r.toNat,c)::h)=some hs:=h
  by_cases hr:r<0∨2^64≤r
  ·rw[aPos hr]at h;cases h
  rw[aa hr]at h
  obtain⟨t,h1,rfl⟩:=Option.map_eq_some_iff.mp h
  obtain⟨a,b,d⟩:=E4 l t h1
  refine⟨by simp only[List.length_cons];lia,fun n=>?_,fun x hx=>?_⟩
  ·cases n with
   |zero=>
    unfold fB
    rw[aPos (by simp only[List.length_cons];lia)]
    show(r,c)=(((r.toNat:Nat):Int),c)
    rw[Int.toNat_of_nonneg (by lia)]
   |succ n=>
    have:=b n
    rw[List.getElem?_cons_succ,←this]
    unfold fB
    simp only[List.length_cons]
    by_cases hc:2*n<l.length
    ·rw[aPos (by lia),aPos hc]
     rfl
    ·rw[aa (by lia),aa hc]
  ·rcases List.mem_cons.mp hx with rfl|hx
   ·show r.toNat<2^64
    have:r<2^64:=by lia
    rw[show(2:Int)^64=18446744073709551616 by rfl]at this
    lia
   ·exact d x hx
structure cS (p:List Insn) (hl:List Int) (hs:List (Nat×Int)) (a:Path.At) (r:RS) (x:Path.Next):Prop where
 eq:r=YJ hl x
 go:∀b,x= .go b→GA p hs b∧b.asks.length≤a.asks.length+1
 halt:∀z q b,x= .halt_ z q b→Path.placeTold q=(if z=0 then -1 else(b.k:Int))∧GM b.m∧b.asks.length≤a.asks.length+1∧∀q∈b.asks,q.args.length=5
section
variable {p:List Insn} {hl:List Int} {hs:List (Nat×Int)} {a:Path.At}
theorem cS.on (g:GA p hs a) {k:Nat} {m:Path.M} {r:RS} (hm:GM m) (hb:Path.begins p k=true) (e:r=bu hl {a with k:=k,m:=m} none) (hst:Path.step p a.k a.m= .go k m):cS p hl hs a r (Path.next p a):=by
 have en:Path.next p a= .go {a with k:=k,m:=m}:=by unfold Path.next;rw[hst]
 rw[en]
 refine⟨e,fun b hb'=>?_,fun z q b h=>nomatch h⟩
 cases hb'
 exact⟨⟨hm,hb,g.left,g.ask⟩,Nat.le_succ _⟩
theorem cS.bad (g:GA p hs a) {r:RS} (e:r=bu hl a (some 1)) (hst:Path.step p a.k a.m= .bad):cS p hl hs a r (Path.next p a):=by
 have en:Path.next p a= .halt_ 1 (some a.k) a:=by unfold Path.next;rw[hst]
 rw[en]
 refine⟨e,fun b h=>(nomatch h),fun z q b h=>?_⟩
 cases h
 exact⟨rfl,g.m,Nat.le_succ _,g.ask⟩
theorem qp {i:Insn} (v:iW p a.k i) (en:Option Int):fW p (bu hl a en)=iA i.cls p (bu hl a en) i:=by
 have e:p.getD a.k aW=i:=by rw[List.getD_eq_getElem?_getD,v.at_];rfl
 unfold fW iA
 rw[show(bu hl a en).place.toNat=a.k from Int.toNat_natCast _,e]
theorem vh {i:Insn} (v:iW p a.k i):Path.step p a.k a.m=
  if i.cls=7∨i.cls=4 then .go (a.k+1) (a.m.set i.dst (if i.op=13 then Path.swapped (i.cls==7||i.reg) i.imm.toNat (a.m.r i.dst)else Path.alu (bitsOf i) i.op i.off (a.m.r i.dst%2^bitsOf i) (i.x (bitsOf i) a.m)))
  else if i.ends=true then .ended
  else if i.call=true then .help
  else if i.always=true then .go (i.target a.k).toNat a.m
  else if i.cls=5∨i.cls=6 then .go (if Path.compares (bitsOf i) i.op (a.m.r i.dst%2^bitsOf i) (i.x (bitsOf i) a.m)=true then(i.target a.k).toNat else a.k+1) a.m
  else if i.cls=0 then .go (a.k+2) (a.m.set i.dst (inBits 32 i.imm+2^32*inBits 32 ((p[a.k+1]?.map fun(j:Insn)=>j.imm).getD 0)))
  else
   match a.m.at_ (inBits 64 ((a.m.r (if i.cls=1 then i.src else i.dst):Int)+i.off)) i.size with
   |none=> .bad
   |some q=>
    if i.cls=1 then .go (a.k+1) (a.m.set i.dst (if i.mode=0x80 then inBits 64 (Path.sgn (8*i.size) (a.m.load q i.size))else a.m.load q i.size))
    else if i.cls=2 then .go (a.k+1) (a.m.store q i.size (inBits 64 i.imm))
    else if i.mode=0x60 then .go (a.k+1) (a.m.store q i.size (a.m.r i.src))
    else if inBits 64 ((a.m.r (if i.cls=1 then i.src else i.dst):Int)+i.off)%i.size≠0 then .bad
    else
     if i.imm=Path.CMPXCHG then .go (a.k+1) ((if a.m.load q i.size=a.m.r 0%256^i.size then a.m.store q i.size (a.m.r i.src%256^i.size)else a.m).set 0 (a.m.load q i.size))
     else if i.imm=Path.XCHG then .go (a.k+1) ((a.m.store q i.size (a.m.r i.src%256^i.size)).set i.src (a.m.load q i.size))
     else .go (a.k+1) (if i.imm%2=1 then(a.m.store q i.size (Path.mixed i.imm (a.m.load q i.size) (a.m.r i.src%256^i.size) i.size)).set i.src (a.m.load q i.size)else a.m.store q i.size (Path.mixed i.imm (a.m.load q i.size) (a.m.r i.src%256^i.size) i.size)):=by
 unfold Path.step
 rw[v.at_]
 rfl
theorem vm {i:Insn} (v:iW p a.k i) (h1:i.ends=false) (h2:i.always=false) (h3:i.wide=false):Path.begins p (a.k+1)=true:=by
 have:=(v.leads ((a.k+1:Nat):Int) (by
  unfold Insn.leads Insn.behind
  rw[h1,h2,h3]
  simp)).2
 rwa [Int.toNat_natCast]at this
theorem YN (g:GA p hs a) {i:Insn} (v:iW p a.k i) (hc:i.cls=7∨i.cls=4):cS p hl hs a (fW p (bu hl a none)) (Path.next p a):=by
 have n1:i.code≠149∧i.code≠5∧i.code≠6∧i.code≠24:=by unfold Insn.cls at hc;lia
 have b:=vm v (by unfold Insn.ends;simp[n1.1]) (by unfold Insn.always;simp[n1.2.1,n1.2.2.1]) (by unfold Insn.wide;simp[n1.2.2.2])
 have ok:=Bw v.known hc
 have h64:bitsOf i≤64:=by have:=lC i;lia
 have st:=vh v
 rw[aPos hc]at st
 refine cS.on g (g.m.set ?_) b ?_ st
 ·split
  ·rename_i bK
   have hi:=ok.swap bK
   exact Nat.lt_of_lt_of_le (Kp _ _ _ (by lia)) (m8 (by lia))
  ·rename_i bK
   rw[←E2 _ _ _ h64]
   exact Nat.lt_of_lt_of_le (Kr hc ok bK) (m8 h64)
 ·rw[qp v]
  have e1:iA i.cls p (bu hl a none) i=uS p (bu hl a none) i:=by
   unfold iA
   rw[aa (by lia),aa (by lia),aa (by lia),aPos (by lia)]
  rw[e1]
  unfold uS
  rw[oG,K8,Kd i _ _ hc.symm ok,E2 _ _ _ h64]
  show RS.mk ((RI a.m.regs).set i.dst _) _ _ _ _ ((a.k:Int)+1) none=_
  rw[sr]
  rfl
theorem YO (g:GA p hs a) {i:Insn} (v:iW p a.k i) (hc:i.cls=0):cS p hl hs a (fW p (bu hl a none)) (Path.next p a):=by
 have fN:=Bx v.known hc
 have b2:=(v.leads _ (EU fN a.k)).2
 rw[Int.toNat_natCast]at b2
 have hlen:=qg b2
 have st:=vh v
 have he:i.ends=false:=by unfold Insn.ends;simp[fN]
 have hcall:i.call=false:=by unfold Insn.call;simp[fN]
 have ha:i.always=false:=by unfold Insn.always;simp[fN]
 rw[aa (by lia),aa (by rw[he];decide),aa (by rw[hcall];decide),aa (by rw[ha];decide),aa (by lia),aPos hc]at st
 refine cS.on g (g.m.set ?_) b2 ?_ st
 ·have q1:=kD 32 i.imm
  have q2:=kD 32 ((p[a.k+1]?.map fun(j:Insn)=>j.imm).getD 0)
  lia
 ·rw[qp v]
  have e1:iA i.cls p (bu hl a none) i=pM p (bu hl a none) i:=by
   unfold iA
   rw[aPos hc]
  rw[e1]
  unfold pM
  have e:p.getD a.k aW=i:=by rw[List.getD_eq_getElem?_getD,v.at_];rfl
  show RS.mk ((RI a.m.regs).set i.dst (nW p (a.k:Int))) _ _ _ _ ((a.k:Int)+2) none=_
  rw[Ke p a.k (by lia),e,sr]
  rfl
theorem YQ (hk:p[a.k]? =some i):rowOf (bu hl a none) i=askTold (Path.helper p a):=by
 unfold rowOf askTold Path.helper
 rw[hk,oG,show(4294967295:Int)=bJ ((32:Nat):Int) by decide,gH]
 show[((inBits 32 i.imm:Nat):Int)]++((RI a.m.regs).drop 1).take 5++[((a.m.r 0:Nat):Int)]=((inBits 32 i.imm:Nat):Int)::((((a.m.regs.drop 1).take 5).map Path.nat)++[Path.nat (a.m.r 0)])
 rw[List.map_take,List.map_drop]
 rfl
theorem step_ask (g:GA p hs a) {i:Insn} (v:iW p a.k i) (hcode:i.code=133) (hh:helpersIn hl=some hs):cS p hl hs a (fW p (bu hl a none)) (Path.next p a):=by
 obtain⟨_,fY,hlt⟩:=E4 hl hs hh
 have hc:i.cls=5:=by unfold Insn.cls;lia
 have he:i.ends=false:=by unfold Insn.ends;simp[hcode]
 have hcall:i.call=true:=by unfold Insn.call;simp[hcode]
 have b:=vm v he (by unfold Insn.always;simp[hcode]) (by unfold Insn.wide;simp[hcode])
 have st:=vh v
 rw[aa (by lia),aa (by rw[he];decide),aPos hcall]at st
 rw[qp v]
 have e1:iA i.cls p (bu hl a none) i=uV (bu hl a none) i:=by
  unfold iA jR
  rw[aa (by lia),aa (by lia),aa (by lia),aa (by lia),aa (by lia),aPos hcode]
 have hargs:(Path.helper p a).args.length=5:=by
  show((a.m.regs.drop 1).take 5).length=5
  rw[List.length_take,List.length_drop,g.m.reg]
  rfl
 have Lb:∀q∈a.asks++[Path.helper p a],q.args.length=5:=fun q hq=>by
  rcases List.mem_append.mp hq with hq|hq
  ·exact g.ask q hq
  ·rw[List.mem_singleton]at hq
   subst hq
   exact hargs
 have hlen:(a.asks++[Path.helper p a]).length=a.asks.length+1:=by rw[List.length_append];rfl
 have gm:∀r0,r0<2^64→GM (Path.helped a.m r0):=fun r0 h0=>⟨by
   show(r0::(List.replicate 5 0++a.m.regs.drop 6)).length=11
   rw[List.length_cons,List.length_append,List.length_replicate,List.length_drop,g.m.reg],fun x hx=>by
   rcases List.mem_cons.mp hx with rfl|hx
   ·exact h0
   ·rcases List.mem_append.mp hx with hx|hx
    ·rw[List.eq_of_mem_replicate hx]
     exact Nat.pow_pos (by decide)
    ·exact g.m.lt x (List.mem_of_mem_drop hx),g.m.stk,g.m.dat⟩
 have an:=fY a.asks.length
 have YR:(bu hl a none).asked.length=a.asks.length:=by
  show(a.asks.map askTold).length=_
  rw[List.length_map]
 rw[e1]
 unfold uV
 rw[show(bu hl a none).bw=hl from rfl,YR,YQ v.at_]
 have YS:(bu hl a none).asked++[askTold (Path.helper p a)]=(a.asks++[Path.helper p a]).map askTold:=by
  rw[List.map_append]
  rfl
 rw[YS]
 have go:∀(r0:Nat) (l:List (Nat×Int)),r0<2^64→l=hs.drop (a.asks.length+1)→fB hl a.asks.length=((r0:Int),0)→Path.next p a= .go ⟨a.k+1,Path.helped a.m r0,l,a.asks++[Path.helper p a]⟩→
   cS p hl hs a (if(fB hl a.asks.length).2≠0 then{(bu hl a none)with asked:=(a.asks++[Path.helper p a]).map askTold,ending:=some 3}else{(bu hl a none)with asked:=(a.asks++[Path.helper p a]).map askTold,regs:=[(fB hl a.asks.length).1,0,0,0,0,0]++(bu hl a none).regs.drop 6,place:=(bu hl a none).place+1}) (Path.next p a):=by
  intro r0 l h0 hl' YT en
  rw[en,YT,aa (fun z=>z rfl)]
  refine⟨?_,fun b' hb'=>?_,fun z q b h=>nomatch h⟩
  ·show RS.mk ([(r0:Int),0,0,0,0,0]++(RI a.m.regs).drop 6) (B8 a.m.data) (B8 a.m.stack) hl _ ((a.k:Int)+1) none=bu hl ⟨a.k+1,Path.helped a.m r0,l,a.asks++[Path.helper p a]⟩ none
   have er:List.map (fun(n:Nat)=>(n:Int)) (r0::(List.replicate 5 0++a.m.regs.drop 6))=[(r0:Int),0,0,0,0,0]++(List.map (fun(n:Nat)=>(n:Int)) a.m.regs).drop 6:=by
    rw[List.map_cons,List.map_append,List.map_drop]
    rfl
   unfold bu RI
   simp only[Path.helped]
   rw[er]
   rfl
  ·cases hb'
   exact⟨⟨gm r0 h0,b,by rw[hl',hlen],Lb⟩,by show(a.asks++[Path.helper p a]).length≤_;rw[hlen];exact Nat.le_refl _⟩
 have hleft:=g.left
 cases el:hs[a.asks.length]? with
 |none=>
  have ln:hs.length≤a.asks.length:=List.getElem?_eq_none_iff.mp el
  rw[List.drop_eq_nil_of_le ln]at hleft
  rw[el]at an
  exact go 0 [] (Nat.pow_pos (by decide)) (by rw[List.drop_eq_nil_of_le (by lia)]) an (by unfold Path.next;rw[st,hleft])
 |some x=>
  have lt:a.asks.length<hs.length:=(List.getElem?_eq_some_iff.mp el).1
  have hx:hs[a.asks.length]=x:=(List.getElem?_eq_some_iff.mp el).2
  rw[List.drop_eq_getElem_cons lt,hx]at hleft
  rw[el]at an
  have an:fB hl a.asks.length=((x.1:Int),x.2):=an
  by_cases h0:x.2=0
  ·exact go x.1 _ (hlt x (List.mem_of_getElem? el)) rfl (by rw[an,h0]) (by unfold Path.next;rw[st,hleft];simp only;rw[aPos h0])
  ·have en:Path.next p a= .halt_ 3 (some a.k) ⟨a.k,a.m,hs.drop (a.asks.length+1),a.asks++[Path.helper p a]⟩:=by unfold Path.next;rw[st,hleft];simp only;rw[aa h0]
   rw[en,an,aPos h0]
   refine⟨rfl,fun b' h=>(nomatch h),fun z q b' h=>?_⟩
   cases h
   exact⟨rfl,g.m,by show(a.asks++[Path.helper p a]).length≤_;rw[hlen];exact Nat.le_refl _,Lb⟩
theorem YU (g:GA p hs a) {i:Insn} (v:iW p a.k i) (hc:i.cls=5∨i.cls=6) (hh:helpersIn hl=some hs):cS p hl hs a (fW p (bu hl a none)) (Path.next p a):=by
 by_cases E5:i.code=133
 ·exact step_ask g v E5 hh
 have st:=vh v
 have eB:iA i.cls p (bu hl a none) i=jR p (bu hl a none) i:=by
  unfold iA
  rw[aa (by lia),aa (by lia),aa (by lia),aa (by lia)]
 by_cases BA:i.code=149
 ·have he:i.ends=true:=by unfold Insn.ends;simp[BA]
  rw[aa (by lia),aPos he]at st
  have en:Path.next p a= .halt_ 0 none a:=by unfold Path.next;rw[st]
  rw[en,qp v,eB]
  unfold jR
  rw[aPos BA]
  refine⟨rfl,fun b h=>(nomatch h),fun z q b h=>?_⟩
  cases h
  exact⟨rfl,g.m,Nat.le_succ _,g.ask⟩
 have he:i.ends=false:=by unfold Insn.ends;simp[BA]
 have hcall:i.call=false:=by unfold Insn.call;simp[E5]
 have hj:i.jumps=true:=by
  unfold Insn.jumps
  rw[he,hcall]
  simp
  exact hc
 have lt:i.target a.k∈i.leads a.k:=by
  unfold Insn.leads
  rw[aPos hj]
  exact List.mem_append.mpr (.inl List.mem_cons_self)
 have t0:=v.leads _ lt
 have oa:=KQ v.known hj v.code
 have h64:bitsOf i≤64:=by have:=lC i;lia
 rw[aa (by lia),aa (by rw[he];decide),aa (by rw[hcall];decide)]at st
 have eM:fW p (bu hl a none)=if i.op=0∨gW i ((a.m.r i.dst:Nat):Int) ((xw i a.m:Nat):Int)=true then{(bu hl a none)with place:=i.target a.k}else{(bu hl a none)with place:=(a.k:Int)+1}:=by
  rw[qp v,eB]
  unfold jR
  rw[aa BA,aa E5,oG,K8,show(bu hl a none).place=(a.k:Int)from rfl,Bo]
 have jump:∀m,m=bu hl {a with k:=(i.target a.k).toNat,m:=a.m} none↔m={(bu hl a none)with place:=i.target a.k}:=fun m=>by
  have:bu hl {a with k:=(i.target a.k).toNat,m:=a.m} none={(bu hl a none)with place:=i.target a.k}:=by
   unfold bu
   simp only
   rw[Int.toNat_of_nonneg t0.1]
  rw[this]
 by_cases ho:i.op=0
 ·rw[aPos (oa.mp ho)]at st
  rw[aPos (.inl ho)]at eM
  exact cS.on g g.m t0.2 ((jump _).mpr eM) st
 ·rw[aa (fun z=>ho (oa.mpr z)),aPos hc]at st
  have cm:=KP v.known hj ho v.code
  have hso:=YL cm (a.m.r i.dst) (xw i a.m)
  rw[E2 _ _ _ h64]at hso
  rw[hso]at eM
  by_cases hq:Path.compares (bitsOf i) i.op (a.m.r i.dst%2^bitsOf i) (i.x (bitsOf i) a.m)=true
  ·rw[aPos hq]at st
   rw[aPos (.inr hq)]at eM
   exact cS.on g g.m t0.2 ((jump _).mpr eM) st
  ·rw[aa hq]at st
   rw[aa (fun z=>z.elim ho hq)]at eM
   have hw:i.wide=false:=by
    unfold Insn.wide Insn.cls at*
    simp
    lia
   have ha:i.always=false:=by cases e:i.always with|false=>rfl|true=>exact absurd (oa.mpr e) ho
   exact cS.on g g.m (vm v he ha hw) eM st
end
section
variable {p:List Insn} {hl:List Int} {hs:List (Nat×Int)} {a:Path.At}
theorem E6 {i:Insn} (hc:i.cls=1∨i.cls=2∨i.cls=3):i.ends=false∧i.call=false∧i.always=false∧i.wide=false:=by
 unfold Insn.cls at hc
 unfold Insn.ends Insn.call Insn.always Insn.wide
 simp
 lia
theorem Lc {i:Insn} (v:iW p a.k i) (hc:i.cls=1∨i.cls=2∨i.cls=3):Path.step p a.k a.m=match a.m.at_ (inBits 64 ((a.m.r (if i.cls=1 then i.src else i.dst):Int)+i.off)) i.size with
   |none=> .bad
   |some q=>
    if i.cls=1 then .go (a.k+1) (a.m.set i.dst (if i.mode=0x80 then inBits 64 (Path.sgn (8*i.size) (a.m.load q i.size))else a.m.load q i.size))
    else if i.cls=2 then .go (a.k+1) (a.m.store q i.size (inBits 64 i.imm))
    else if i.mode=0x60 then .go (a.k+1) (a.m.store q i.size (a.m.r i.src))
    else if inBits 64 ((a.m.r (if i.cls=1 then i.src else i.dst):Int)+i.off)%i.size≠0 then .bad
    else
     if i.imm=Path.CMPXCHG then .go (a.k+1) ((if a.m.load q i.size=a.m.r 0%256^i.size then a.m.store q i.size (a.m.r i.src%256^i.size)else a.m).set 0 (a.m.load q i.size))
     else if i.imm=Path.XCHG then .go (a.k+1) ((a.m.store q i.size (a.m.r i.src%256^i.size)).set i.src (a.m.load q i.size))
     else .go (a.k+1) (if i.imm%2=1 then(a.m.store q i.size (Path.mixed i.imm (a.m.load q i.size) (a.m.r i.src%256^i.size) i.size)).set i.src (a.m.load q i.size)else a.m.store q i.size (Path.mixed i.imm (a.m.load q i.size) (a.m.r i.src%256^i.size) i.size)):=by
 obtain⟨f1,f2,f3,_⟩:=E6 hc
 rw[vh v,aa (by lia),aa (by rw[f1];decide),aa (by rw[f2];decide),aa (by rw[f3];decide),aa (by lia),aa (by lia)]
 all_goals generalize a.m.at_ (inBits 64 ((a.m.r (if i.cls=1 then i.src else i.dst):Int)+i.off)) i.size=o
 all_goals (cases o<;>rfl)
theorem Ld (i:Insn):i.size≤8:=by have:=oF i;lia
theorem step_load (g:GA p hs a) {i:Insn} (v:iW p a.k i) (hc:i.cls=1) (ho: -32768≤i.off∧i.off<32768):cS p hl hs a (fW p (bu hl a none)) (Path.next p a):=by
 obtain⟨f1,f2,f3,f4⟩:=E6 (.inl hc)
 have b:=vm v f1 f3 f4
 have st:=Lc v (.inl hc)
 rw[aPos hc]at st
 have eM:fW p (bu hl a none)=nN p (bu hl a none) i:=by
  rw[qp v]
  unfold iA
  rw[aa (by lia),aPos hc]
 rw[eM]
 unfold nN
 rw[oG]
 have h8:=Ld i
 rcases K6 (m:=a.m) (r:=bu hl a none) (i:=i) (a.m.r i.src) (g.m.r _) ho (gZ _) (by rw[show(bu hl a none).stack=B8 a.m.stack from rfl,gZ];exact g.m.stk) g.m.dat with⟨w1,w2⟩|⟨w,q,w1,w2,w3,w4,w5⟩
 ·rw[w2]at st
  rw[w1]
  exact cS.bad g rfl st
 ·rw[w2]at st
  simp only at st
  rw[aPos hc]at st
  rw[w1]
  simp only
  have hn:=K9 hl a none w q i.size _ w3 g.m w5
  rw[hn]
  have E7:=La (m:=a.m) (q:=(w,q)) h8
  have hz:=oF i
  refine cS.on g (g.m.set ?_) b ?_ st
  ·split
   ·exact kD _ _
   ·exact Nat.lt_of_lt_of_le E7 (m8 (by lia))
  ·have ev:(if i.mode=128 then Builtin.bitAnd (bB ((a.m.load (w,q) i.size:Nat):Int) (8*(i.size:Int))) 18446744073709551615 else((a.m.load (w,q) i.size:Nat):Int))=(((if i.mode=0x80 then inBits 64 (Path.sgn (8*i.size) (a.m.load (w,q) i.size))else a.m.load (w,q) i.size):Nat):Int):=by
    by_cases hm:i.mode=128
    ·rw[aPos hm,aPos hm,show(8*(i.size:Int))=((8*i.size:Nat):Int) by lia,kE _ _ (by lia),show(18446744073709551615:Int)=bJ ((64:Nat):Int) by decide,gH]
    ·rw[aa hm,aa hm]
   rw[ev]
   show RS.mk ((RI a.m.regs).set i.dst _) _ _ _ _ ((a.k:Int)+1) none=_
   rw[sr]
   rfl
theorem jC (n v:Nat):inBits (8*n) (v:Int)=v%256^n:=by rw[Ez,p256]
theorem YV {i:Insn} {n:Option Insn} (hk:i.known n=true) (hc:i.cls=3) (hm:i.mode≠96):i.mode=192∧(i.imm=0∨i.imm=1∨i.imm=64∨i.imm=65∨i.imm=80∨i.imm=81∨i.imm=160∨i.imm=161∨i.imm=225∨i.imm=241):=by
 unfold Insn.known at hk
 rw[aa (by lia),aa (by lia),aa (by lia),aa (by lia),aa (by lia)]at hk
 unfold Path.atomic at hk
 simp at hk
 rcases hk with hk|hk
 ·exact absurd hk.1 hm
 ·exact⟨hk.1,hk.2.2⟩
theorem Le (n old x:Nat) (z w:Int) (h:(z=0∨z=1)∧w=0∨(z=64∨z=65)∧w=64∨(z=80∨z=81)∧w=80∨(z=160∨z=161)∧w=160):inBits (8*n) (gx w (old:Int) (x:Int))=inBits (8*n) ((Path.mixed z old (x%256^n) n:Nat):Int):=by
 have om:=Nat.or_mod_two_pow (a:=old) (b:=x) (n:=8*n)
 have E8:=Nat.or_mod_two_pow (a:=old) (b:=x%256^n) (n:=8*n)
 have am:=Nat.and_mod_two_pow (a:=old) (b:=x) (n:=8*n)
 have am':=Nat.and_mod_two_pow (a:=old) (b:=x%256^n) (n:=8*n)
 have xm:=Nat.xor_mod_two_pow (a:=old) (b:=x) (n:=8*n)
 have E9:=Nat.xor_mod_two_pow (a:=old) (b:=x%256^n) (n:=8*n)
 rw[p256]at om E8 am am' xm E9
 rw[Nat.mod_mod]at E8 am' E9
 rcases h with⟨hz,rfl⟩|⟨hz,rfl⟩|⟨hz,rfl⟩|⟨hz,rfl⟩
 ·have e:Path.mixed z old (x%256^n) n=(old+x%256^n)%256^n:=by
   rcases hz with rfl|rfl<;>rfl
  rw[e]
  show inBits (8*n) ((old:Int)+(x:Int))=_
  rw[←Int.natCast_add,jC,jC,Nat.mod_mod,Nat.add_mod_mod]
 ·have e:Path.mixed z old (x%256^n) n=old|||(x%256^n):=by
   rcases hz with rfl|rfl<;>rfl
  rw[e]
  show inBits (8*n) (Builtin.bitOr (old:Int) (x:Int))=_
  rw[r8,jC,jC,om,E8]
 ·have e:Path.mixed z old (x%256^n) n=old&&& (x%256^n):=by
   rcases hz with rfl|rfl<;>rfl
  rw[e]
  show inBits (8*n) (Builtin.bitAnd (old:Int) (x:Int))=_
  rw[Bl,jC,jC,am,am']
 ·have e:Path.mixed z old (x%256^n) n=old ^^^ (x%256^n):=by
   rcases hz with rfl|rfl<;>rfl
  rw[e]
  show inBits (8*n) (Builtin.bitXor (old:Int) (x:Int))=_
  rw[J5,jC,jC,xm,E9]
theorem YW (n:Nat) (z:Int) (h:n≤8):inBits (8*n) z=inBits (8*n) ((inBits 64 z:Nat):Int):=by
 rw[Ez,K7 _ _ (by lia)]
theorem YX (g:GA p hs a) {i:Insn} (v:iW p a.k i) (hc:i.cls=2∨i.cls=3) (ho: -32768≤i.off∧i.off<32768):cS p hl hs a (fW p (bu hl a none)) (Path.next p a):=by
 obtain⟨f1,f2,f3,f4⟩:=E6 (.inr hc)
 have b:=vm v f1 f3 f4
 have st:=Lc v (.inr hc)
 rw[aa (by lia)]at st
 have eM:fW p (bu hl a none)=l8 p (bu hl a none) i:=by
  rw[qp v]
  unfold iA
  rw[aa (by lia),aa (by lia),aPos hc]
 rw[eM]
 unfold l8
 rw[oG]
 have h8:=Ld i
 have hz:=oF i
 rcases K6 (m:=a.m) (r:=bu hl a none) (i:=i) (a.m.r i.dst) (g.m.r _) ho (gZ _) (by rw[show(bu hl a none).stack=B8 a.m.stack from rfl,gZ];exact g.m.stk) g.m.dat with⟨w1,w2⟩|⟨w,q,w1,w2,w3,w4,w5⟩
 ·rw[w2]at st
  rw[w1]
  exact cS.bad g rfl st
 ·rw[w2]at st
  simp only at st
  rw[aa (by lia)]at st
  rw[w1]
  simp only
  rw[EL]
  have hw0:0≤((a.m.r i.dst:Nat):Int)+i.off:=by
   have:0≤baseOf w:=by cases w<;>decide
   lia
  have put:=fun z x hv=>YM hl a none w q i.size _ z x w3 g.m w5 hv
  have hn:=K9 hl a none w q i.size _ w3 g.m w5
  have E7:=La (m:=a.m) (q:=(w,q)) h8
  have Fb:a.m.load (w,q) i.size<2^64:=Nat.lt_of_lt_of_le E7 (m8 (by lia))
  by_cases h2:i.cls=2
  ·have ex:(i.cls==3&&i.mode==192)=false:=by simp[h2]
   rw[ex,aa (fun z=>nomatch z.1),aa (by decide),aa (by lia)]
   rw[aPos h2]at st
   have pm:=put i.imm (inBits 64 i.imm) (YW _ _ h8)
   refine cS.on g pm.2 b ?_ st
   rw[pm.1]
   rfl
  ·have h3:i.cls=3:=by lia
   rw[aa h2]at st
   by_cases h6:i.mode=96
   ·have ex:(i.cls==3&&i.mode==192)=false:=by simp[h6]
    rw[ex,aa (fun z=>nomatch z.1),aa (by decide),aPos h3,oG]
    rw[aPos h6]at st
    have pm:=put ((a.m.r i.src:Nat):Int) (a.m.r i.src) rfl
    refine cS.on g pm.2 b ?_ st
    rw[pm.1]
    rfl
   ·obtain⟨hm,hv⟩:=YV v.known h3 h6
    have ex:(i.cls==3&&i.mode==192)=true:=by simp[h3,hm]
    rw[aa h6,w4]at st
    have al:((((a.m.r i.dst:Nat):Int)+i.off)%(i.size:Int)≠0)↔((((a.m.r i.dst:Nat):Int)+i.off).toNat%i.size≠0):=by
     have e:(((a.m.r i.dst:Nat):Int)+i.off)=(((((a.m.r i.dst:Nat):Int)+i.off).toNat:Nat):Int):=by lia
     generalize (((a.m.r i.dst:Nat):Int)+i.off).toNat=N at e
     rw[e,←Int.natCast_emod]
     lia
    rw[ex]
    by_cases ha:(((a.m.r i.dst:Nat):Int)+i.off).toNat%i.size≠0
    ·rw[aPos ha]at st
     rw[aPos ⟨rfl,al.mpr ha⟩]
     exact cS.bad g rfl st
    ·rw[aa ha]at st
     rw[aa (fun z=>ha (al.mp z.2)),aPos rfl]
     unfold ow
     rw[hn,oG,oG,show(8*(i.size:Int))=((8*i.size:Nat):Int) by lia,jA,p256]
     by_cases vn:i.imm=241
     ·rw[aPos (c:=i.imm=Path.CMPXCHG) vn]at st
      rw[aPos vn]
      have pm:=put ((a.m.r i.src:Nat):Int) (a.m.r i.src%256^i.size) (by rw[jC,jC,Nat.mod_mod])
      by_cases hq:a.m.load (w,q) i.size=a.m.r 0%256^i.size
      ·rw[aPos hq]at st
       rw[aPos (by rw[hq]),pm.1]
       refine cS.on g (pm.2.set Fb) b ?_ st
       show RS.mk ((RI a.m.regs).set 0 ((a.m.load (w,q) i.size:Nat):Int)) _ _ _ _ ((a.k:Int)+1) none=_
       rw[sr]
       unfold Path.M.store
       cases w<;>rfl
      ·rw[aa hq]at st
       rw[aa (fun z=>hq (by exact_mod_cast z))]
       refine cS.on g (g.m.set Fb) b ?_ st
       show RS.mk ((RI a.m.regs).set 0 ((a.m.load (w,q) i.size:Nat):Int)) _ _ _ _ ((a.k:Int)+1) none=_
       rw[sr]
       rfl
     ·rw[aa (c:=i.imm=Path.CMPXCHG) vn]at st
      rw[aa vn]
      have Lf:∀(y:Int) (x:Nat),inBits (8*i.size) y=inBits (8*i.size) (x:Int)→Path.step p a.k a.m= .go (a.k+1) ((a.m.store (w,q) i.size x).set i.src (a.m.load (w,q) i.size))→cS p hl hs a {({gF (bu hl a none) w (((a.m.r i.dst:Nat):Int)+i.off) (i.size:Int) y with regs:=(bu hl a none).regs.set i.src ((a.m.load (w,q) i.size:Nat):Int)}:RS)with place:=(bu hl a none).place+1} (Path.next p a):=fun y x hv st=>by
       have pm:=put y x hv
       rw[pm.1]
       refine cS.on g (pm.2.set Fb) b ?_ st
       show RS.mk ((RI a.m.regs).set i.src ((a.m.load (w,q) i.size:Nat):Int)) _ _ _ _ ((a.k:Int)+1) none=_
       rw[sr]
       unfold Path.M.store
       cases w<;>rfl
      have YY:∀(y:Int) (x:Nat),inBits (8*i.size) y=inBits (8*i.size) (x:Int)→Path.step p a.k a.m= .go (a.k+1) (a.m.store (w,q) i.size x)→cS p hl hs a {gF (bu hl a none) w (((a.m.r i.dst:Nat):Int)+i.off) (i.size:Int) y with place:=(bu hl a none).place+1} (Path.next p a):=fun y x hv st=>by
       have pm:=put y x hv
       rw[pm.1]
       exact cS.on g pm.2 b rfl st
      by_cases BB:i.imm=225
      ·rw[aPos (c:=i.imm=Path.XCHG) BB]at st
       rw[BB,aPos (by decide+kernel),show gx (Builtin.bitAnd 225 240) ((a.m.load (w,q) i.size:Nat):Int) ((a.m.r i.src:Nat):Int)=((a.m.r i.src:Nat):Int) by rw[show Builtin.bitAnd 225 240=224 by decide+kernel];rfl]
       exact Lf _ _ (by rw[jC,jC,Nat.mod_mod]) st
      ·rw[aa (c:=i.imm=Path.XCHG) BB]at st
       have odd:∀c:Int,i.imm=c→Builtin.bitAnd c 1≠0→c%2=1→(∃w',Builtin.bitAnd c 240=w'∧((c=0∨c=1)∧w'=0∨(c=64∨c=65)∧w'=64∨(c=80∨c=81)∧w'=80∨(c=160∨c=161)∧w'=160))→cS p hl hs a {(if Builtin.bitAnd i.imm 1≠0 then{gF (bu hl a none) w (((a.m.r i.dst:Nat):Int)+i.off) (i.size:Int) (gx (Builtin.bitAnd i.imm 240) ((a.m.load (w,q) i.size:Nat):Int) ((a.m.r i.src:Nat):Int))with regs:=(bu hl a none).regs.set i.src ((a.m.load (w,q) i.size:Nat):Int)}else gF (bu hl a none) w (((a.m.r i.dst:Nat):Int)+i.off) (i.size:Int) (gx (Builtin.bitAnd i.imm 240) ((a.m.load (w,q) i.size:Nat):Int) ((a.m.r i.src:Nat):Int)):RS)with place:=(bu hl a none).place+1} (Path.next p a):=fun c ec h1 h2 ⟨w',e1,e2⟩=>by
        rw[ec]at st ⊢
        rw[aPos h2]at st
        rw[aPos h1,e1]
        exact Lf _ _ (Le _ _ _ c w' e2) st
       have BC:∀c:Int,i.imm=c→Builtin.bitAnd c 1=0→c%2=0→(∃w',Builtin.bitAnd c 240=w'∧((c=0∨c=1)∧w'=0∨(c=64∨c=65)∧w'=64∨(c=80∨c=81)∧w'=80∨(c=160∨c=161)∧w'=160))→cS p hl hs a {(if Builtin.bitAnd i.imm 1≠0 then{gF (bu hl a none) w (((a.m.r i.dst:Nat):Int)+i.off) (i.size:Int) (gx (Builtin.bitAnd i.imm 240) ((a.m.load (w,q) i.size:Nat):Int) ((a.m.r i.src:Nat):Int))with regs:=(bu hl a none).regs.set i.src ((a.m.load (w,q) i.size:Nat):Int)}else gF (bu hl a none) w (((a.m.r i.dst:Nat):Int)+i.off) (i.size:Int) (gx (Builtin.bitAnd i.imm 240) ((a.m.load (w,q) i.size:Nat):Int) ((a.m.r i.src:Nat):Int)):RS)with place:=(bu hl a none).place+1} (Path.next p a):=fun c ec h1 h2 ⟨w',e1,e2⟩=>by
        rw[ec]at st ⊢
        rw[aa (by lia)]at st
        rw[aa (fun z=>z h1),e1]
        exact YY _ _ (Le _ _ _ c w' e2) st
       rcases hv with e|e|e|e|e|e|e|e|e|e
       ·exact BC 0 e (by decide+kernel) (by decide) ⟨0,by decide+kernel,.inl ⟨.inl rfl,rfl⟩⟩
       ·exact odd 1 e (by decide+kernel) (by decide) ⟨0,by decide+kernel,.inl ⟨.inr rfl,rfl⟩⟩
       ·exact BC 64 e (by decide+kernel) (by decide) ⟨64,by decide+kernel,.inr (.inl ⟨.inl rfl,rfl⟩)⟩
       ·exact odd 65 e (by decide+kernel) (by decide) ⟨64,by decide+kernel,.inr (.inl ⟨.inr rfl,rfl⟩)⟩
       ·exact BC 80 e (by decide+kernel) (by decide) ⟨80,by decide+kernel,.inr (.inr (.inl ⟨.inl rfl,rfl⟩))⟩
       ·exact odd 81 e (by decide+kernel) (by decide) ⟨80,by decide+kernel,.inr (.inr (.inl ⟨.inr rfl,rfl⟩))⟩
       ·exact BC 160 e (by decide+kernel) (by decide) ⟨160,by decide+kernel,.inr (.inr (.inr ⟨.inl rfl,rfl⟩))⟩
       ·exact odd 161 e (by decide+kernel) (by decide) ⟨160,by decide+kernel,.inr (.inr (.inr ⟨.inr rfl,rfl⟩))⟩
       ·exact absurd e BB
       ·exact absurd e vn
theorem Lg (g:GA p hs a) {i:Insn} (v:iW p a.k i) (ho: -32768≤i.off∧i.off<32768) (hh:helpersIn hl=some hs):cS p hl hs a (fW p (bu hl a none)) (Path.next p a):=by
 have h:=uJ i
 by_cases h0:i.cls=0
 ·exact YO g v h0
 by_cases h1:i.cls=1
 ·exact step_load g v h1 ho
 by_cases h2:i.cls=2∨i.cls=3
 ·exact YX g v h2 ho
 by_cases h4:i.cls=7∨i.cls=4
 ·exact YN g v h4
 ·exact YU g v (by lia) hh
end
def BD (p:List Insn):Prop:=∀k,k<p.length→ -32768≤(p.getD k aW).off∧(p.getD k aW).off<32768
structure Fc (hl:List Int) (n:Nat) (a:Path.At) (r:RS) (x:Int×Option Nat×Path.At):Prop where
 eq:r=bu hl x.2.2 (some x.1)
 place:Path.placeTold x.2.1=(if x.1=0 then -1 else(x.2.2.k:Int))
 m:GM x.2.2.m
 asks:x.2.2.asks.length≤a.asks.length+n
 args:∀q∈x.2.2.asks,q.args.length=5
theorem Lh {p:List Insn} {hl:List Int} {hs:List (Nat×Int)} (v:Valid p) (ho:BD p) (hh:helpersIn hl=some hs):∀(n:Nat) (a:Path.At),GA p hs a→Fc hl n a (ef p n (bu hl a none)) (Path.runs p n a)
 |0,a,g=>⟨rfl,rfl,g.m,Nat.le_refl _,g.ask⟩
 |n+1,a,g=>by
  have iv:=v.ins g.E1
  have s:=Lg (hl:=hl) g iv (ho a.k iv.lt) hh
  show Fc hl (n+1) a (ef p n (fW p (bu hl a none))) (match Path.next p a with
   | .go b=>Path.runs p n b
   | .halt_ z k b=>(z,k,b))
  cases e:Path.next p a with
  |go b=>
   have sg:=s.go b e
   have q:=Lh v ho hh n b sg.1
   rw[s.eq,e]
   exact⟨q.eq,q.place,q.m,by have:=q.asks;have:=sg.2;show(Path.runs p n b).2.2.asks.length≤_;lia,q.args⟩
  |halt_ z k b=>
   have sh:=s.halt z k b e
   rw[s.eq,e]
   refine⟨?_,sh.1,sh.2.1,by have:=sh.2.2.1;show b.asks.length≤_;lia,sh.2.2.2⟩
   exact Ed n (by show ¬(some z=none);simp)
theorem YZ {hl:List Int} {x:Int×Option Nat×Path.At} (h:Path.placeTold x.2.1=(if x.1=0 then -1 else(x.2.2.k:Int))):rT (bu hl x.2.2 (some x.1))=Path.runTold x:=by
 unfold rT Path.runTold Path.bytesTold
 rw[h]
 show[x.1,(if some x.1=some 0 then -1 else(x.2.2.k:Int)),((x.2.2.asks.map askTold).length:Int)]++(x.2.2.asks.map askTold).flatten++[((B8 x.2.2.m.data).length:Int)]++B8 x.2.2.m.data=_
 rw[List.length_map,gZ,List.flatMap_def]
 have e:(if some x.1=some 0 then(-1:Int)else(x.2.2.k:Int))=if x.1=0 then -1 else(x.2.2.k:Int):=by
  by_cases hz:x.1=0
  ·rw[aPos hz,aPos (by rw[hz])]
  ·rw[aa hz,aa (fun y=>hz (Option.some.inj y))]
 rw[e,List.append_assoc,List.append_assoc]
 rfl
theorem Y0 {p:List Insn} {hs:List (Nat×Int)} {d:Bytes} (v:Valid p) (hd:d.length≤256):GA p hs (Path.begin_ d hs):=by
 refine⟨⟨rfl,fun x hx=>?_,?_,hd⟩,ES v.pos,rfl,fun q hq=>nomatch hq⟩
 ·have hx:x∈[0,Path.DATA,d.length,0,0,0,0,0,0,0,Path.TOP]:=hx
  have e1:Path.DATA=4294967296:=rfl
  have e2:Path.TOP=8589934592:=rfl
  simp only[List.mem_cons,List.not_mem_nil,or_false]at hx
  omega
 ·show(List.replicate 512 (0:UInt8)).length=512
  rw[List.length_replicate]
theorem Y3 (hl:List Int) (hs:List (Nat×Int)) (d:Bytes):dW (B8 d) hl=bu hl (Path.begin_ d hs) none:=by
 unfold dW bu Path.begin_ Path.start
 rw[gZ]
 have e:B8 (List.replicate Path.STACK 0)=List.replicate 512 0:=by
  unfold B8
  rw[List.map_replicate]
  rfl
 rw[e]
 rfl
theorem rinv {p:List Insn} {hl:List Int} {hs:List (Nat×Int)} (v:Valid p) (ho:BD p) (hh:helpersIn hl=some hs):Bd p (fun i r=>i≤2000∧(r.ending=none→∃a,r=bu hl a none∧GA p hs a∧a.asks.length≤i)):=by
 refine⟨fun i r ⟨hi,h⟩ en=>?_,fun i r hlt ⟨hi,h⟩ en=>⟨hlt,fun Fd=>?_⟩⟩
 ·obtain⟨a,rfl,g,hk⟩:=h en
  have iv:=v.ins g.E1
  have ek:(bu hl a none).place.toNat=a.k:=Int.toNat_natCast _
  refine⟨⟨?_,fun z hz=>?_,K0 _,K0 _,?_,?_⟩,?_⟩
  ·show(RI a.m.regs).length=11
   unfold RI
   rw[List.length_map]
   exact g.m.reg
  ·obtain⟨n,hn,rfl⟩:=List.mem_map.mp (show z∈RI a.m.regs from hz)
   have:=g.m.lt n hn
   rw[show(2:Int)^64=18446744073709551616 by rfl]
   lia
  ·show(B8 a.m.stack).length=512
   rw[gZ];exact g.m.stk
  ·show(B8 a.m.data).length≤256
   rw[gZ];exact g.m.dat
  ·rw[ek]
   have lt:=iv.lt
   refine⟨⟨by show(0:Int)≤(a.k:Int);lia,by show(a.k:Int)<_;lia⟩,⟨iv.dst,iv.src⟩,fun hc=>?_,fun hc=>Bw iv.known hc,⟨?_,?_⟩⟩
   ·have fN:=Bx iv.known hc
    have b2:=(iv.leads _ (EU fN a.k)).2
    rw[Int.toNat_natCast]at b2
    have:=qg b2
    show(a.k:Int)+1<_
    lia
   ·show(a.asks.map askTold).length≤4000
    rw[List.length_map]
    lia
   ·show hl.length%2=0
    have:=(E4 hl hs hh).1
    lia
 ·obtain⟨a,rfl,g,hk⟩:=h en
  have iv:=v.ins g.E1
  have s:=Lg (hl:=hl) g iv (ho a.k iv.lt) hh
  rw[s.eq]at Fd ⊢
  cases e:Path.next p a with
  |go b=>
   have sg:=s.go b e
   exact⟨b,rfl,sg.1,by have:=sg.2;lia⟩
  |halt_ z k b=>
   rw[e]at Fd
   cases Fd
theorem Li (z:Int):mY z=true↔¬(z<0∨2^64≤z):=by
 unfold mY
 rw[show(2:Int)^64=18446744073709551616 by rfl]
 by_cases h:0≤z
 ·rw[aPos (bq h),decide_eq_true_eq]
  lia
 ·rw[aa (by simpa using h)]
  constructor
  ·intro y;cases y
  ·intro y;lia
theorem Y4 (r c:Int) (l:List Int):gY (r::c::l)=(mY r&&gY l):=by
 unfold gY
 simp only[List.length_cons]
 by_cases h:l.length%2≠0
 ·rw[aPos (by lia),aPos h,Bool.and_false]
 ·rw[aa (by lia),aa h,show(l.length+1+1)/2=l.length/2+1 by lia,List.range_succ_eq_map,List.map_cons,List.all_cons,List.map_map]
  rfl
theorem BE:∀l:List Int,gY l=(helpersIn l).isSome
 |[]=>rfl
 |[r]=>rfl
 |r::c::l=>by
  rw[Y4,BE l]
  show _=(if r<0∨2^64≤r then none else(helpersIn l).map fun(h:List (Nat×Int))=>(r.toNat,c)::h).isSome
  by_cases h:r<0∨2^64≤r
  ·rw[aPos h]
   have:mY r=false:=by
    cases e:mY r with
    |false=>rfl
    |true=>exact absurd h ((Li r).mp e)
   rw[this]
   rfl
  ·rw[aa h,(Li r).mpr h,Bool.true_and,Option.isSome_map]
theorem Y5 {l:List Int} (h:AllB l):B8 (l.map u8)=l:=by
 unfold B8
 rw[List.map_map]
 conv=>rhs;rw[←List.map_id l]
 refine List.map_congr_left fun z hz=>?_
 exact Kf (h z hz)
theorem Y6 {l:List Int} (h:jw l=true):EE (progOf l)∧BD (progOf l)∧0<(progOf l).length:=by
 obtain⟨⟨h1,h2,h3⟩,hb⟩:=Eo h
 have hlen:(progOf l).length=l.length/8:=by unfold progOf;rw[List.length_map,List.length_range]
 have key:∀k,k<(progOf l).length→(progOf l).getD k aW=mU ((l.drop (8*k)).take 8):=fun k hk=>by
  unfold progOf
  rw[List.getD_eq_getElem?_getD,List.getElem?_map,List.getElem?_range (by lia)]
  rfl
 refine⟨fun k hk=>?_,fun k hk=>?_,by lia⟩
 ·rw[key k hk]
  show(((l.drop (8*k)).take 8).getD 0 0).toNat<256
  rw[List.getD_eq_getElem?_getD]
  cases e:((l.drop (8*k)).take 8)[0]? with
  |none=>decide
  |some z=>
   have:=hb z (List.mem_of_mem_drop (List.mem_of_mem_take (List.mem_of_getElem? e)))
   show z.toNat<256
   lia
 ·rw[key k hk]
  have:=uw 16 ((((l.drop (8*k)).take 8).getD 2 0).toNat+256*(((l.drop (8*k)).take 8).getD 3 0).toNat) (by decide)
  show -32768≤Path.sgn 16 _∧Path.sgn 16 _<32768
  exact this
def lE (r:Path.Rec):Option (gn×Option Nat):=match r.prog,r.judged with
 |some p,some least=>some (TS (Path.told p least).1,(Path.told p least).2.head?)
 |_,_=>none
def bM (r:Path.Rec):RR:=⟨r.prog,lE r,r.last.map fun m=>(RI m.regs,B8 m.stack)⟩
structure iX (r:Path.Rec):Prop where
 prog:∀p,r.prog=some p→Valid p∧BD p
 iB:∀least,r.judged=some least→least≤256
 last:∀m,r.last=some m→GM m
def Small:Path.Call→Prop
 | .load l=>l.length≤100000
 | .run _ d h=>d.length≤100000∧h.length≤100000
 |_=>True
structure oH (r:Path.Rec) (c:Path.Call):Prop where
 pre:Pre (bM r) c
 eq:dB (bM r) c=(bM (Path.does r c).1,(Path.does r c).2)
 gG:iX (Path.does r c).1
 len:(Path.does r c).2.length≤14300
theorem Y7 {r:Path.Rec} {l:List Int} (g:iX r) (hl:l.length≤100000):oH r (.load l):=by
 have ed:Path.does r (.load l)=match Path.codeIn l with
  |none=>(r,[-1])
  |some b=>match Path.firstWrong (Path.program b)with
   |none=>(⟨some (Path.program b),none,none⟩,[0])
   |some k=>(r,[Path.wrong (Path.program b) k,Path.nat k]):=rfl
 have em:dB (bM r) (.load l)=rV (bM r) l:=rfl
 rw[XJ]at ed
 unfold rV at em
 by_cases h:jw l=true
 ·rw[aPos h]at ed em
  simp only at ed
  obtain⟨k1,k2,k3⟩:=Y6 h
  have pe:=XN l h
  rw[Kh _ k1 _ (Nat.le_refl _)]at em
  rw[←pe]at ed
  have fw:Path.firstWrong (progOf l)=(List.range (progOf l).length).find? (fun(k:Nat)=>Path.wrong (progOf l) k != 0):=rfl
  rw[←fw]at em
  cases e:Path.firstWrong (progOf l)with
  |none=>
   rw[e]at ed em
   simp only at ed em
   rw[aPos trivial]at em
   refine⟨hl,by rw[em,ed];rfl,?_,by rw[ed];show 1≤14300;decide⟩
   rw[ed]
   exact⟨fun p hp=>by cases hp;exact⟨⟨k1,k3,e⟩,k2⟩,fun x hx=>(nomatch hx),fun x hx=>(nomatch hx)⟩
  |some k=>
   rw[e]at ed em
   simp only at ed em
   rw[aa (fun z=>nomatch z)]at em
   refine⟨hl,by rw[em,ed];rfl,?_,by rw[ed];show 2≤14300;decide⟩
   rw[ed]
   exact g
 ·rw[aa h]at ed em
  simp only at ed
  refine⟨hl,by rw[em,ed],?_,by rw[ed];show 1≤14300;decide⟩
  rw[ed]
  exact g
theorem Y8 {r:Path.Rec} {least:Int} (g:iX r):oH r (.judge least):=by
 have pre:Pre (bM r) (.judge least):=fun p hp h0 h1=>by
  have:=YH (g.prog p hp).1 least.toNat (by lia)
  rw[Int.toNat_of_nonneg h0]at this
  exact⟨_,this⟩
 have ed:Path.does r (.judge least)=match r.prog with
  |none=>(r,[-1])
  |some p=>if least<0∨Path.nat Path.MOST<least then(r,[-2])else({r with judged:=some least.toNat},match Path.notGood p least.toNat with
   |none=>[0]
   |some k=>[1,Path.nat k]):=rfl
 have em:dB (bM r) (.judge least)=mZ (bM r) least:=rfl
 unfold mZ at em
 rw[show(bM r).prog=r.prog from rfl]at em
 cases e:r.prog with
 |none=>
  rw[e]at ed em
  simp only at ed em
  refine⟨pre,by rw[em,ed],by rw[ed];exact g,by rw[ed];show 1≤14300;decide⟩
 |some p=>
  rw[e]at ed em
  simp only at ed em
  have hm:Path.nat Path.MOST=256:=rfl
  by_cases h:0≤least∧least≤256
  ·rw[aa (by rw[hm];lia)]at ed
   rw[aPos h]at em
   have t:=(ET (g.prog p e).1 least.toNat (by lia)).1
   rw[Int.toNat_of_nonneg h.1]at t
   rw[t]at em
   have eq:dB (bM r) (.judge least)=(bM (Path.does r (.judge least)).1,(Path.does r (.judge least)).2):=by
    rw[em,ed]
    exact Prod.ext rfl rfl
   refine⟨pre,eq,by rw[ed];exact⟨fun q hq=>g.prog q (by rw[e];exact hq),fun x hx=>by cases hx;lia,g.last⟩,?_⟩
   rw[ed]
   show(match Path.notGood p least.toNat with|none=>[0]|some k=>[1,Path.nat k]).length≤14300
   split
   ·show 1≤14300;decide
   ·show 2≤14300;decide
  ·rw[aPos (by rw[hm];lia)]at ed
   rw[aa h]at em
   exact⟨pre,by rw[em,ed],by rw[ed];exact g,by rw[ed];show 1≤14300;decide⟩
theorem Y9 {r:Path.Rec} {i j:Int} (g:iX r):oH r (.range i j):=by
 have ed:Path.does r (.range i j)=(r,match r.prog,r.judged with
  |some p,some least=>if i<0∨j<0∨Path.nat Path.PIECES≤j∨Path.begins p i.toNat=false then[-1]else(match Path.before p least i.toNat with
   |none=>[3]
   |some s=>[Path.nat (State_.r s j.toNat).kind,Path.nat (State_.r s j.toNat).lo,Path.nat (State_.r s j.toNat).hi])
  |_,_=>[-1]):=rfl
 have em:dB (bM r) (.range i j)=(bM r,lu (bM r) i j):=rfl
 have pre:Pre (bM r) (.range i j):=fun t ht=>by
  have ht:lE r=some t:=ht
  unfold lE at ht
  cases e1:r.prog with
  |none=>rw[e1]at ht;cases ht
  |some p=>
   cases e2:r.judged with
   |none=>rw[e1,e2]at ht;cases ht
   |some least=>
    rw[e1,e2]at ht
    cases ht
    refine⟨p,e1,?_⟩
    show(TS (Path.told p least).1).length=p.length
    unfold TS
    rw[List.length_map]
    exact(ET (g.prog p e1).1 least (g.iB least e2)).2.len
 have ec:Path.does r (.range i j)=(r,lu (bM r) i j)∧(lu (bM r) i j).length≤14300:=by
  rw[ed]
  unfold lu
  rw[show(bM r).prog=r.prog from rfl,show(bM r).iB=lE r from rfl]
  unfold lE
  cases e1:r.prog with
  |none=>exact⟨rfl,by show 1≤14300;decide⟩
  |some p=>
   cases e2:r.judged with
   |none=>exact⟨rfl,by show 1≤14300;decide⟩
   |some least=>
    simp only
    have hp:Path.nat Path.PIECES=75:=rfl
    have gt:=(ET (g.prog p e1).1 least (g.iB least e2)).2
    have hb:gX p i=true↔0≤i∧Path.begins p i.toNat=true:=by unfold gX;simp
    by_cases h:gX p i=true∧0≤j∧j<75
    ·have h':=hb.mp h.1
     rw[aPos h,aa (by rw[hp,h'.2];simp;lia),EO]
     unfold Path.before
     cases e3:(Path.told p least).1.getD i.toNat none with
     |none=>exact⟨rfl,by show 1≤14300;decide⟩
     |some s=>
      have gs:=(gt.ok _ _ e3).1
      simp only[Option.map_some]
      rw[m9 gs (by lia)]
      exact⟨rfl,by show 3≤14300;decide⟩
    ·rw[aa h,aPos]
     ·exact⟨rfl,by show 1≤14300;decide⟩
     ·rw[hp]
      by_cases h1:0≤i
      ·by_cases h2:Path.begins p i.toNat=true
       ·have:¬(0≤j∧j<75):=fun z=>h ⟨hb.mpr ⟨h1,h2⟩,z⟩
        lia
       ·exact .inr (.inr (.inr (by simpa using h2)))
      ·exact .inl (by lia)
 exact⟨pre,by rw[em,ec.1],by rw[ec.1];exact g,by rw[ec.1];exact ec.2⟩
theorem Za {r:Path.Rec} {k:Int} (g:iX r):oH r (.reg k):=by
 have ed:Path.does r (.reg k)=(r,match r.last with
  |some m=>if k<0∨10<k then[-1]else[Path.nat (m.r k.toNat)]
  |none=>[-1]):=rfl
 have em:dB (bM r) (.reg k)=(bM r,ly (bM r) k):=rfl
 have pre:Pre (bM r) (.reg k):=fun t ht=>by
  obtain⟨m,h1,rfl⟩:=Option.map_eq_some_iff.mp (show r.last.map _=some t from ht)
  show(RI m.regs).length=11
  unfold RI
  rw[List.length_map]
  exact(g.last m h1).reg
 have ec:Path.does r (.reg k)=(r,ly (bM r) k)∧(ly (bM r) k).length≤14300:=by
  rw[ed]
  unfold ly
  rw[show(bM r).last=r.last.map fun m=>(RI m.regs,B8 m.stack)from rfl]
  cases e:r.last with
  |none=>exact⟨rfl,by show 1≤14300;decide⟩
  |some m=>
   simp only[Option.map_some]
   by_cases h:0≤k∧k≤10
   ·rw[aPos h,aa (by lia),EZ]
    exact⟨rfl,by show 1≤14300;decide⟩
   ·rw[aa h,aPos (by lia)]
    exact⟨rfl,by show 1≤14300;decide⟩
 exact⟨pre,by rw[em,ec.1],by rw[ec.1];exact g,by rw[ec.1];exact ec.2⟩
theorem Zb {r:Path.Rec} (g:iX r):oH r .stack:=by
 have ed:Path.does r .stack=(r,match r.last with
  |some m=>Path.bytesTold m.stack
  |none=>[-1]):=rfl
 have em:dB (bM r) .stack=(bM r,lz (bM r)):=rfl
 have pre:Pre (bM r) .stack:=fun t ht=>by
  obtain⟨m,h1,rfl⟩:=Option.map_eq_some_iff.mp (show r.last.map _=some t from ht)
  show(B8 m.stack).length=512
  rw[gZ]
  exact(g.last m h1).stk
 have ec:Path.does r .stack=(r,lz (bM r))∧(lz (bM r)).length≤14300:=by
  rw[ed]
  unfold lz
  rw[show(bM r).last=r.last.map fun m=>(RI m.regs,B8 m.stack)from rfl]
  cases e:r.last with
  |none=>exact⟨rfl,by show 1≤14300;decide⟩
  |some m=>
   simp only[Option.map_some]
   refine⟨?_,?_⟩
   ·rw[gZ]
    rfl
   ·rw[List.length_cons,gZ,(g.last m e).stk]
    decide
 exact⟨pre,by rw[em,ec.1],by rw[ec.1];exact g,by rw[ec.1];exact ec.2⟩
theorem Lj:∀l:List Path.Ask,(∀q∈l,q.args.length=5)→(l.flatMap askTold).length=7*l.length
 |[],_=>rfl
 |q::r,h=>by
  rw[List.flatMap_cons,List.length_append,Lj r fun x hx=>h x (List.mem_cons_of_mem _ hx),List.length_cons]
  have:(askTold q).length=7:=by
   unfold askTold
   rw[List.length_cons,List.length_append,List.length_map,h q List.mem_cons_self]
   rfl
  lia
theorem Zc {r:Path.Rec} {most:Int} {d hl:List Int} (g:iX r) (hsm:d.length≤100000∧hl.length≤100000):oH r (.run most d hl):=by
 have ed:Path.does r (.run most d hl)=match r.prog with
  |none=>(r,[-1])
  |some p=>match Path.bytesIn d,helpersIn hl with
   |some b,some h=>if most<0∨Path.nat Path.STEPS<most∨Path.MOST<b.length then(r,[-2])else({r with last:=some (Path.runs p most.toNat (Path.begin_ b h)).2.2.m},Path.runTold (Path.runs p most.toNat (Path.begin_ b h)))
   |_,_=>(r,[-2]):=rfl
 have em:dB (bM r) (.run most d hl)=m6 (bM r) most d hl:=rfl
 have core:∀p,r.prog=some p→0≤most→most≤2000→iR d=true→∀hs,helpersIn hl=some hs→Fc hl most.toNat (Path.begin_ (d.map u8) hs) (ef p most.toNat (dW d hl)) (Path.runs p most.toNat (Path.begin_ (d.map u8) hs))∧dW d hl=bu hl (Path.begin_ (d.map u8) hs) none∧GA p hs (Path.begin_ (d.map u8) hs):=fun p hp h0 h1 hd hs hh=>by
  obtain⟨d1,d2⟩:=JW hd
  have gb:GA p hs (Path.begin_ (d.map u8) hs):=Y0 (g.prog p hp).1 (by rw[List.length_map];exact d1)
  have e0:dW d hl=bu hl (Path.begin_ (d.map u8) hs) none:=by
   rw[←Y3 hl hs (d.map u8),Y5 d2]
  rw[e0]
  exact⟨Lh (g.prog p hp).1 (g.prog p hp).2 hh _ _ gb,rfl,gb⟩
 have pre:Pre (bM r) (.run most d hl):=by
  refine⟨hsm,fun p hp h0 h1 hd ha=>?_⟩
  rw[BE]at ha
  obtain⟨hs,hh⟩:=Option.isSome_iff_exists.mp ha
  obtain⟨c1,c2,c3⟩:=core p hp h0 h1 hd hs hh
  refine⟨_,rinv (g.prog p hp).1 (g.prog p hp).2 hh,⟨by decide,fun _=>⟨_,c2,c3,Nat.le_refl _⟩⟩,?_⟩
  rw[c1.eq]
  refine⟨?_,fun row qe=>?_,?_⟩
  ·show(List.map askTold _).length≤4000
   rw[List.length_map]
   have:=c1.asks
   have e:(Path.begin_ (d.map u8) hs).asks.length=0:=rfl
   lia
  ·obtain⟨q,hq,rfl⟩:=List.mem_map.mp (show row∈List.map askTold _ from qe)
   unfold askTold
   rw[List.length_cons,List.length_append,List.length_map,c1.args q hq]
   rfl
  ·show(B8 _).length≤256
   rw[gZ]
   exact c1.m.dat
 unfold m6 at em
 rw[show(bM r).prog=r.prog from rfl]at em
 cases e:r.prog with
 |none=>
  rw[e]at ed em
  simp only at ed em
  refine⟨pre,by rw[em,ed],by rw[ed];exact g,by rw[ed];show 1≤14300;decide⟩
 |some p=>
  rw[e]at ed em
  simp only at ed em
  rw[Kg]at ed
  have hm:Path.nat Path.STEPS=2000:=rfl
  have hm2:Path.MOST=256:=rfl
  have no:Path.does r (.run most d hl)=(r,[-2])→¬((0≤most∧most≤2000)∧iR d=true∧gY hl=true)→oH r (.run most d hl):=fun ed h=>by
   rw[aa h]at em
   exact⟨pre,by rw[em,ed],by rw[ed];exact g,by rw[ed];show 1≤14300;decide⟩
  have hdata:iR d=true↔mX d=true∧d.length≤256:=by
   unfold iR
   by_cases h:d.length≤256
   ·rw[aPos h]
    exact⟨fun z=>⟨z,h⟩,fun z=>z.1⟩
   ·rw[aa h]
    exact⟨fun z=>(nomatch z),fun z=>absurd z.2 h⟩
  by_cases hb:mX d=true
  ·rw[aPos hb]at ed
   cases hh:helpersIn hl with
   |none=>
    rw[hh]at ed
    refine no ed fun z=>?_
    have:=z.2.2
    rw[BE,hh]at this
    cases this
   |some hs=>
    rw[hh]at ed
    simp only at ed
    rw[List.length_map]at ed
    have ha:gY hl=true:=by rw[BE,hh];rfl
    by_cases hc:(0≤most∧most≤2000)∧d.length≤256
    ·rw[aa (by rw[hm,hm2];lia)]at ed
     rw[aPos ⟨hc.1,hdata.mpr ⟨hb,hc.2⟩,ha⟩]at em
     obtain⟨c1,c2,c3⟩:=core p e hc.1.1 hc.1.2 (hdata.mpr ⟨hb,hc.2⟩) hs hh
     rw[c1.eq,YZ c1.place]at em
     refine⟨pre,?_,?_,?_⟩
     ·rw[em,ed]
      refine Prod.ext ?_ rfl
      show RR.mk (some p) (lE r) _=RR.mk (some p) (lE ⟨some p,r.judged,_⟩) _
      have ej:lE r=lE ⟨some p,r.judged,some (Path.runs p most.toNat (Path.begin_ (d.map u8) hs)).2.2.m⟩:=by
       unfold lE
       rw[e]
      rw[ej]
      rfl
     ·rw[ed]
      exact⟨fun q hq=>g.prog q (by rw[e];exact hq),g.iB,fun m hm=>by cases hm;exact c1.m⟩
     ·rw[ed]
      show(Path.runTold _).length≤14300
      unfold Path.runTold Path.bytesTold
      simp only[List.length_append,Lj _ c1.args,List.length_cons,List.length_map,List.length_nil]
      have h1:=c1.asks
      have h2:=c1.m.dat
      have e:(Path.begin_ (d.map u8) hs).asks.length=0:=rfl
      lia
    ·rw[aPos (by rw[hm,hm2];lia)]at ed
     exact no ed fun z=>hc ⟨z.1,(hdata.mp z.2.1).2⟩
  ·rw[aa hb]at ed
   refine no ed fun z=>hb (hdata.mp z.2.1).1
theorem Lk {r:Path.Rec} {c:Path.Call} (g:iX r) (h:Small c):oH r c:=by
 cases c with
 |load l=>exact Y7 g h
 |judge n=>exact Y8 g
 |range i j=>exact Y9 g
 |run m d hh=>exact Zc g h
 |reg k=>exact Za g
 |stack=>exact Zb g
def vo:Path.Rec→List Path.Call→List Int
 |_,[]=>[]
 |r,c::cs=>((Path.does r c).2.length:Int)::((Path.does r c).2++vo (Path.does r c).1 cs)
theorem Ll:∀(cs:List Path.Call) (r:Path.Rec),iX r→(∀c∈cs,Small c)→lA (bM r) cs=vo r cs
 |[],_,_,_=>rfl
 |c::cs,r,g,h=>by
  have d:=Lk g (h c List.mem_cons_self)
  show((dB (bM r) c).2.length:Int)::((dB (bM r) c).2++lA (dB (bM r) c).1 cs)=_
  rw[d.eq]
  show((Path.does r c).2.length:Int)::((Path.does r c).2++lA (bM (Path.does r c).1) cs)=_
  rw[Ll cs _ d.gG fun x hx=>h x (List.mem_cons_of_mem _ hx)]
  rfl
theorem Lm:iX Path.blank:=⟨fun p h=>(nomatch h),fun x h=>(nomatch h),fun m h=>(nomatch h)⟩
theorem Zd (cs:List Path.Call) (h:∀c∈cs,Small c):∀R c,(∃r,R=bM r∧iX r)→c∈cs→Pre R c∧(∃r,(dB R c).1=bM r∧iX r)∧(dB R c).2.length≤14300:=by
 rintro R c ⟨r,rfl,g⟩ hc
 have d:=Lk g (h c hc)
 rw[d.eq]
 exact⟨d.pre,⟨_,rfl,d.gG⟩,d.len⟩
def rowsOf:Path.Call→List (List Int)
 | .load b=>[[0],b]
 | .judge n=>[[1,n]]
 | .range i r=>[[2,i,r]]
 | .run n d h=>[[3,n],d,h]
 | .reg r=>[[4,r]]
 | .stack=>[[5]]
theorem Ze (s:Path.Rec) (x:Path.Call):PathNeutral.step s (rowsOf x)=Path.does s x:=by
 cases x<;>rfl
theorem Zf (x:Path.Call):PyFlat.put1 (rowsOf x)=ku x:=by
 cases x<;>simp[rowsOf,PyFlat.put1,PyFlat.putRows,PyFlat.putRow,ku]
theorem Zg (c:List (List Int)) (h:PathNeutral.asked1 c=true):∃x,c=rowsOf x∧Small x:=by
 unfold PathNeutral.asked1 at h
 split at h
 ·rename_i b
  refine⟨.load b,rfl,?_⟩
  unfold PathNeutral.long at h
  rw[Bool.and_eq_true]at h
  have:=aZ h.1
  show b.length≤100000
  omega
 ·exact⟨.judge _,rfl,trivial⟩
 ·exact⟨.range _ _,rfl,trivial⟩
 ·rename_i n d hh
  refine⟨.run n d hh,rfl,?_⟩
  unfold PathNeutral.long at h
  simp only[Bool.and_eq_true]at h
  have h1:=aZ h.1.2.1
  have h2:=aZ h.2.1
  exact⟨by omega,by omega⟩
 ·exact⟨.reg _,rfl,trivial⟩
 ·exact⟨.stack,rfl,trivial⟩
 ·cases h
theorem Ln:∀cs:List (List (List Int)),(∀c∈cs,PathNeutral.asked1 c=true)→∃xs:List Path.Call,cs=xs.map rowsOf∧∀x∈xs,Small x
 |[],_=>⟨[],rfl,fun x hx=>nomatch hx⟩
 |c::r,h=>by
  obtain⟨x,e,s⟩:=Zg c (h c List.mem_cons_self)
  obtain⟨xs,e',s'⟩:=Ln r fun y hy=>h y (List.mem_cons_of_mem _ hy)
  refine⟨x::xs,by rw[List.map_cons,e,e'],fun y hy=>?_⟩
  rcases List.mem_cons.mp hy with rfl|hy
  ·exact s
  ·exact s' y hy
theorem Lo:∀xs:List Path.Call,PyFlat.put (xs.map rowsOf)=xs.flatMap ku
 |[]=>rfl
 |x::r=>by
  rw[List.map_cons,List.flatMap_cons,←Lo r,←Zf]
  rfl
theorem Lp:∀(xs:List Path.Call) (s:Path.Rec),PyFlat.told (PyFlat.played PathNeutral.step s (xs.map rowsOf))=vo s xs
 |[],_=>rfl
 |x::r,s=>by
  have ih:=Lp r (Path.does s x).1
  unfold PyFlat.told at ih ⊢
  show((((PathNeutral.step s (rowsOf x)).2::PyFlat.played PathNeutral.step (PathNeutral.step s (rowsOf x)).1 (r.map rowsOf)).flatMap fun a=>(a.length:Int)::a))=_
  rw[Ze,List.flatMap_cons,ih]
  rfl
theorem Zh (c:List (List Int)):PyYqaaac.whole c=c:=by
 unfold PyYqaaac.whole
 split<;>rfl
theorem Zi {l:List Int} (h:PyYqaaac.answers_asked l=true):∃cs:List Path.Call,l=cs.flatMap ku∧cs.length≤400∧(∀c∈cs,Small c)∧PyYqaaac.answers l=vo Path.blank cs:=by
 unfold PyYqaaac.answers_asked PyYqaaac.calls at h
 unfold PyYqaaac.answers PyYqaaac.calls
 cases e:PyFlat.calls PyYqaaac.shape l.length l with
 |none=>rw[e]at h;cases h
 |some cs=>
  rw[e]at h
  simp only at h ⊢
  rw[show cs.map PyYqaaac.whole=cs from(List.map_congr_left fun c _=>Zh c).trans (List.map_id cs)]at h ⊢
  unfold PathNeutral.asked at h
  rw[Bool.and_eq_true,Bool.and_eq_true]at h
  obtain⟨xs,e1,s⟩:=Ln cs fun c hc=>List.all_eq_true.mp h.2.1 c hc
  have hl:=aZ h.2.2
  obtain⟨p1,_⟩:=PyFlat.put_calls _ _ _ e
  subst e1
  rw[List.length_map]at hl
  exact⟨xs,by rw[p1,Lo],hl,s,Lp xs _⟩
theorem Zj {l:List Int} {cs:List Path.Call} (h:∀c∈cs,Small c) (e:PyYqaaac.answers l=vo Path.blank cs):lA r6 cs=PyYqaaac.answers l:=by
 rw[e]
 exact Ll cs Path.blank Lm h
section
variable {P:Program} {w:World} {K:W.Frag} {h:Heap} {mg:Str→Option Value} {x:Str} {st:Stmt} {a:Addr}
theorem aS (D:aR K x st) (KX:K.In h) (G:h.Ns mainGlobals mg):Def K mg x st:=by
 obtain⟨f,oc,od,kV,doc,pm,an,cdv,ct,sl,e,l,c,k⟩:=D.ex
 exact⟨⟨f,_,W.mg_of KX G e,N4 l c k⟩⟩
theorem cW {n:Int} (D:cR K x n) (KX:K.In h) (G:h.Ns mainGlobals mg):∃t,mg x=some (.int n t):=by
 obtain⟨t,e⟩:=D.ex
 exact⟨t,W.mg_of KX G e⟩
theorem qt {vs:List V} {H:Hp} (D:nR K a vs) (hl:vs.length≤1000):cI K H a vs:=by
 obtain⟨its,n,sl,od,l,v⟩:=D.ex
 have e:=v.length
 exact .inr ⟨_,its,n,l,rfl,rfl,Nat.le_trans (by rw[←Array.length_toList];omega) (show 1000≤sizeLine by decide),v⟩
theorem Lq:∀(es:List DictEntry) (kvs:List (Key×V)),Dk w es kvs→∃vs:List (Key×Value),Pairs (i6 P w) es vs∧KV kvs vs∧vs.map (·.1)=kvs.map (·.1)∧∀e∈es,∃k,(i6 P w).is k e.key=true∧e.hash=(i6 P w).hash k
 |[],[],_=>⟨[],.nil,.nil,rfl,fun e he=>nomatch he⟩
 |[],_::_,h=>h.elim
 |_::_,[],h=>h.elim
 |e::es,kv::kvs,⟨h1,h2,h3,h4⟩=>by
  obtain⟨vs,p1,p2,p3,p4⟩:=Lq es kvs h4
  refine⟨(kv.1,e.val)::vs,.cons h1 rfl p1,.cons ⟨rfl,h3⟩ p2,by rw[List.map_cons,List.map_cons,p3],fun y hy=>?_⟩
  rcases List.mem_cons.mp hy with rfl|hy
  ·exact⟨kv.1,h1,h2⟩
  ·exact p4 y hy
theorem qu {kvs:List (Key×V)} (D:nS w K a kvs) (hn:(kvs.map (·.1)).Nodup) (ns:(a==sysModules)=false):KD P w K a kvs:=by
 obtain⟨es,ep,l,v⟩:=D.ex
 obtain⟨vs,p1,p2,p3,p4⟩:=Lq (P:=P) _ _ v
 exact⟨⟨_,es,ep,vs,l,⟨rfl,rfl,rfl⟩,rfl,fun e he=>p4 e (Array.mem_toList_iff.mpr he),p1,by rw[p3];exact hn,p2⟩,ns⟩
theorem Zk (KX:K.In h) (G:h.Ns mainGlobals mg) (F:ur w K):Txt P w K mg A0:=
 ⟨aS F.wI KX G,
  aS F.wJ KX G,
  aS F.wK KX G,
  aS F.wL KX G,
  aS F.wM KX G,
  aS F.wN KX G,
  aS F.wO KX G,
  aS F.wQ KX G,
  aS F.wR KX G,
  aS F.wU KX G,
  aS F.wV KX G,
  aS F.wW KX G,
  aS F.wX KX G,
  aS F.wY KX G,
  aS F.wZ KX G,
  aS F.w9 KX G,
  aS F.xg KX G,
  aS F.xh KX G,
  aS F.xj KX G,
  aS F.xo KX G,
  aS F.xq KX G,
  aS F.xr KX G,
  aS F.xu KX G,
  aS F.xx KX G,
  aS F.xy KX G,
  aS F.xA KX G,
  aS F.xB KX G,
  aS F.xC KX G,
  aS F.xD KX G,
  aS F.xE KX G,
  aS F.xF KX G,
  aS F.xG KX G,
  aS F.xH KX G,
  aS F.xJ KX G,
  aS F.xK KX G,
  aS F.xM KX G,
  aS F.xN KX G,
  aS F.xO KX G,
  aS F.xP KX G,
  aS F.xQ KX G,
  aS F.xR KX G,
  aS F.xS KX G,
  aS F.xT KX G,
  aS F.xU KX G,
  aS F.xV KX G,
  aS F.xW KX G,
  aS F.xX KX G,
  aS F.xY KX G,
  aS F.xZ KX G,
  aS F.x6 KX G,
  aS F.x8 KX G,
  aS F.x9 KX G,
  aS F.ya KX G,
  aS F.yb KX G,
  aS F.yc KX G,
  aS F.yd KX G,
  aS F.ye KX G,
  aS F.yf KX G,
  aS F.yg KX G,
  aS F.yh KX G,
  aS F.yi KX G,
  aS F.yj KX G,
  aS F.yk KX G,
  aS F.yl KX G,
  aS F.ym KX G,
  aS F.yo KX G,
  aS F.yp KX G,
  aS F.yq KX G,
  aS F.yr KX G,
  aS F.yt KX G,
  aS F.yu KX G,
  aS F.yw KX G,
  aS F.yx KX G,
  aS F.yy KX G,
  aS F.yz KX G,
  aS F.yC KX G,
  aS F.yD KX G,
  aS F.yE KX G,
  aS F.yF KX G,
  aS F.yG KX G,
  aS F.yH KX G,
  aS F.yI KX G,
  aS F.yJ KX G,
  aS F.yK KX G,
  aS F.yL KX G,
  aS F.yM KX G,
  aS F.yN KX G,
  aS F.yO KX G,
  aS F.yP KX G,
  aS F.yQ KX G,
  aS F.yR KX G,
  aS F.yS KX G,
  aS F.yT KX G,
  aS F.yU KX G,
  aS F.yV KX G,
  aS F.yW KX G,
  aS F.yX KX G,
  aS F.yY KX G,
  aS F.yZ KX G,
  aS F.y9 KX G,
  aS F.za KX G,
  aS F.zb KX G,
  aS F.zc KX G,
  aS F.zd KX G,
  aS F.ze KX G,
  aS F.zf KX G,
  aS F.zg KX G,
  aS F.zh KX G,
  aS F.zj KX G,
  aS F.zk KX G,
  aS F.zl KX G,
  aS F.zm KX G,
  aS F.zo KX G,
  aS F.zp KX G,
  aS F.zq KX G,
  cW F.zu KX G,
  cW F.qW KX G,
  cW F.zw KX G,
  cW F.pF KX G,
  cW F.nH KX G,
  cW F.qX KX G,
  cW F.cP KX G,
  cW F.kP KX G,
  cW F.jM KX G,
  cW F.lU KX G,
  cW F.zx KX G,
  cW F.nI KX G,
  cW F.zy KX G,
  cW F.tM KX G,
  cW F.pG KX G,
  cW F.nJ KX G,
  cW F.qY KX G,
  cW F.pH KX G,
  cW F.tN KX G,
  cW F.tO KX G,
  cW F.qZ KX G,
  cW F.tP KX G,
  cW F.tQ KX G,
  cW F.tR KX G,
  cW F.tS KX G,
  cW F.zz KX G,
  cW F.zA KX G,
  cW F.zB KX G,
  cW F.zC KX G,
  cW F.zD KX G,
  W.mg_of KX G F.OM,
  fun H=>⟨_,rfl,qt F.dG (by decide)⟩,
  W.mg_of KX G F.ON,
  fun H=>⟨_,rfl,qt F.tT (by decide)⟩,
  W.mg_none_of KX G F.d8,
  W.mg_none_of KX G F.kR,
  W.mg_none_of KX G F.jh,
  W.mg_none_of KX G F.nL,
  W.mg_none_of KX G F.nM,
  W.mg_none_of KX G F.rm,
  W.mg_none_of KX G F.tU,
  W.mg_none_of KX G F.CW,
  W.mg_of KX G F.OO,
  fun H=>qt F.pI (by decide),
  W.mg_of KX G F.OP,
  fun H=>qt F.zE (by decide),
  W.mg_of KX G F.OQ,
  fun H=>qt F.tV (by decide),
  W.mg_of KX G F.OR,
  fun H=>qt F.zF (by decide),
  W.mg_of KX G F.OS,
  fun H=>qt F.zG (by decide),
  W.mg_of KX G F.OT,
  qu F.tW (by decide+kernel) (by decide),
  W.mg_of KX G F.OU,
  qu F.zH (by decide+kernel) (by decide),
  W.mg_of KX G F.OV,
  qu F.zI (by decide+kernel) (by decide),
  W.mg_of KX G F.OW,
  qu F.iK (by decide+kernel) (by decide),
  W.mg_of KX G F.OX,
  qu F.zK (by decide+kernel) (by decide),
  W.mg_of KX G F.OY,
  qu F.zL (by decide+kernel) (by decide),
  W.mg_of KX G F.OZ,
  qu F.zM (by decide+kernel) (by decide),
  W.mg_of KX G F.O0,
  W.mg_of KX G F.O1,
  W.mg_of KX G F.O2,
  W.mg_of KX G F.O3,
  W.mg_of KX G F.O4,
  W.mg_of KX G F.O5,
  W.mg_of KX G F.O6,
  W.mg_of KX G F.O7,
  W.mg_of KX G F.O8,
  W.mg_of KX G F.O9,
  W.mg_of KX G F.Pa,
  W.mg_of KX G F.Pb,
  W.mg_of KX G F.Pc,
  W.mg_of KX G F.Pd,
  W.mg_of KX G F.Pe,
  W.mg_of KX G F.Pf,
  W.mg_of KX G F.Pg,
  W.mg_of KX G F.Ph,
  W.mg_of KX G F.Pj,
  W.mg_of KX G F.Pk,
  W.mg_of KX G F.Pn,
  W.mg_of KX G F.Po,
  W.mg_of KX G F.Pp,
  W.mg_of KX G F.Pq,
  W.mg_of KX G F.Pr,
  W.mg_of KX G F.Pu,
  W.mg_of KX G F.Pw,
  W.mg_of KX G F.Px,
  W.mg_of KX G F.Py,
  W.mg_of KX G F.Pz,
  W.mg_of KX G F.PB,
  W.mg_of KX G F.PD,
  W.mg_of KX G F.PF,
  W.mg_of KX G F.PJ,
  W.mg_of KX G F.PK,
  W.mg_of KX G F.PL⟩
theorem Zl (KX:K.In h) (G:h.Ns mainGlobals mg) (F:ur w K):cF P w K mg A0 B0:=
 ⟨Zk KX G F,
  W.mg_of KX G F.PM,
  F.uf,
  F.zN,
  F.zO,
  F.zP,
  F.zQ,
  F.zR,
  F.zS,
  F.zT,
  F.zU,
  F.zV,
  F.zW,
  F.zX,
  F.zY,
  W.mg_of KX G F.PN,
  F.pO,
  F.ug,
  F.zZ,
  F.z8,
  F.z9,
  W.mg_of KX G F.PR,
  F.jl,
  F.nP,
  F.rq,
  F.Aa,
  F.Ab,
  W.mg_of KX G F.PU,
  F.eG,
  F.pP,
  F.mw,
  F.Ac,
  F.uh,
  F.Ad,
  F.um,
  F.Ae,
  F.uo,
  F.Af,
  F.rA,
  W.mg_of KX G F.PV,
  F.eV,
  F.eH,
  F.pQ,
  F.rB,
  F.uq,
  F.nQ,
  F.ie,
  F.jS,
  F.Ag,
  F.Ah,
  W.mg_of KX G F.PX,
  F.dN,
  F.rC,
  F.mz,
  F.Ai,
  F.Aj,
  F.Ak,
  F.Al,
  F.Am,
  F.kX,
  F.An,
  F.rD,
  W.mg_of KX G F.PY,
  F.cQ,
  F.mC,
  F.mD,
  F.kY,
  F.Ao,
  F.Aq,
  F.Ar,
  F.As,
  F.Au,
  F.Av,
  F.Aw,
  F.Ax,
  F.Ay,
  F.Az,
  F.AA,
  F.AB,
  F.AD,
  F.AE⟩
end
end My
section
namespace L2
open PySem PySem.Spec PyProof.Rows
open PySem.W (Frag)
open Path (Insn bitsOf State_ numbers inBits Range_ beginsFrom askTold littleOf helpersIn Bytes)
open PySem.W (WData Codec OpenSpec Well WellAll ReadsW ReadsAllW)
mutual
inductive Dw (K:W.Frag) (H:Hp):V→WData→Prop
 |aK:Dw K H .aK .none
 |bl (b:Bool):Dw K H (.bl b) (.bool b)
 |int (i:Int):Dw K H (.int i) (.int i)
 |str (x:Str):Dw K H (.str x) (.str x)
 |fP (b:Array UInt8):Dw K H (.fP b) (.bytes b.toList)
 |lst {a:Addr} {xs:List V} {ds:List WData}:aJ K H a xs→iY K H xs ds→Dw K H (.ref a) (.list ds)
 |tup {a:Addr} {xs:List V} {ds:List WData}:cI K H a xs→iY K H xs ds→Dw K H (.ref a) (.tuple ds)
inductive iY (K:W.Frag) (H:Hp):List V→List WData→Prop
 |nil:iY K H [] []
 |cons {v:V} {vs:List V} {d:WData} {ds:List WData}:Dw K H v d→iY K H vs ds→iY K H (v::vs) (d::ds)
end
theorem Lr {K:W.Frag} {H:Hp}:∀ns:List Int,iY K H (ns.map V.int) (ns.map WData.int)
 |[]=> .nil
 |n::r=> .cons (.int n) (Lr r)
theorem Ls {K:W.Frag} {H:Hp}:∀(ns:List Int) (xs:List V),iY K H xs (ns.map WData.int)→xs=ns.map V.int
 |[],xs,h=>by
  cases h
  rfl
 |n::r,xs,h=>by
  cases h with
  |cons h1 h2=>
   cases h1
   rw[Ls r _ h2]<;>rfl
section
variable {P:Program} {w:World} {K:W.Frag} {H:Hp} {h:Heap} {R:W.WRecords} {cl:Str→Option Addr}
theorem Zm {a:Addr} {xs:List V} (hok:cX P w H h) (KX:K.In h) (q:aJ K H a xs):∃(its:List Value) (o:Obj) (n:Nat),Vals xs its∧h.get? a=some o∧o.cls= .type "list"∧o.data= .seq its.toArray n:=by
 rcases q with q|⟨o,its,n,e,hc,_,hd,_,hv⟩
 ·obtain⟨_,its,n,hv,e⟩:=(show fQ P w H h a (.lst xs)from q.ok hok)
  exact⟨its,_,n,hv,e,rfl,rfl⟩
 ·exact⟨its.toList,o,n,hv,KX _ _ e,hc,by simp[hd]⟩
theorem Zn {a:Addr} {xs:List V} (hok:cX P w H h) (KX:K.In h) (q:cI K H a xs):∃(its:List Value) (o:Obj) (n:Nat),Vals xs its∧h.get? a=some o∧o.cls= .type "tuple"∧o.data= .seq its.toArray n:=by
 rcases q with q|⟨o,its,n,e,hc,hd,_,hv⟩
 ·obtain⟨_,its,hv,o,e,hc,n,hd⟩:=(show fQ P w H h a (.tup xs)from q.ok hok)
  exact⟨its,o,n,hv,e,hc,hd⟩
 ·exact⟨its.toList,o,n,hv,KX _ _ e,hc,by simp[hd]⟩
mutual
theorem Dw.reads (hok:cX P w H h) (KX:K.In h):∀(d:WData) (v:V) (u:Value),Dw K H v d→RelV v u→∃as,ReadsW R cl h u d as
 | .none,_,_,x,r=>by
  cases x
  cases r
  exact⟨_,ReadsW.none⟩
 | .bool b,_,_,x,r=>by
  cases x
  cases r
  exact⟨_,ReadsW.bool b⟩
 | .int i,_,_,x,r=>by
  cases x
  obtain⟨t,rfl⟩:=r
  exact⟨_,ReadsW.int i t⟩
 | .str s,_,_,x,r=>by
  cases x
  obtain⟨t,rfl⟩:=r
  exact⟨_,ReadsW.str s t⟩
 | .bytes b,_,_,x,r=>by
  cases x
  obtain⟨t,rfl⟩:=r
  exact⟨_,ReadsW.bytes _ t⟩
 | .list ds,_,_,x,r=>by
  cases x with
  |lst hs ha=>
   cases r
   obtain⟨its,o,n,rv,ho,hc,hd⟩:=Zm hok KX hs
   obtain⟨as,hr⟩:=Dw.readsAll hok KX ds _ its ha rv
   exact⟨_,ReadsW.list ho hc hd hr⟩
 | .tuple ds,_,_,x,r=>by
  cases x with
  |tup hs ha=>
   cases r
   obtain⟨its,o,n,rv,ho,hc,hd⟩:=Zn hok KX hs
   obtain⟨as,hr⟩:=Dw.readsAll hok KX ds _ its ha rv
   exact⟨_,ReadsW.tuple ho hc hd hr⟩
 | .float _,_,_,x,_=>by cases x
 | .dict _,_,_,x,_=>by cases x
 | .bytearray _,_,_,x,_=>by cases x
 | .set _,_,_,x,_=>by cases x
 | .frozenset _,_,_,x,_=>by cases x
 | .obj _ _,_,_,x,_=>by cases x
theorem Dw.readsAll (hok:cX P w H h) (KX:K.In h):∀(ds:List WData) (vs:List V) (us:List Value),iY K H vs ds→Vals vs us→∃as,ReadsAllW R cl h us ds as
 |[],_,_,x,r=>by
  cases x
  cases r
  exact⟨_,ReadsAllW.nil⟩
 |d::ds,_,_,x,r=>by
  cases x with
  |cons h1 h2=>
   cases r with
   |cons r1 r2=>
    obtain⟨as,q1⟩:=Dw.reads hok KX d _ _ h1 r1
    obtain⟨bs,q2⟩:=Dw.readsAll hok KX ds _ _ h2 r2
    exact⟨_,ReadsAllW.cons q1 q2⟩
end
end
mutual
def iE:WData→Bool
 | .none=>true
 | .bool _=>true
 | .int _=>true
 | .str _=>true
 | .bytes _=>true
 | .list xs=>jD xs
 | .tuple xs=>jD xs
 |_=>false
def jD:List WData→Bool
 |[]=>true
 |x::r=>iE x&&jD r
end
theorem Lu {α:Type} {f:α→WData} (h:∀a,iE (f a)=true):∀l:List α,jD (l.map f)=true
 |[]=>rfl
 |x::r=>by
  show(iE (f x)&&jD (r.map f))=true
  rw[h x,Lu h r]<;>rfl
theorem oJ:∀(c:Codec) (a:c.denote),iE (c.enc a)=true
 | .unit,_=>rfl
 | .bool,_=>rfl
 | .int _ _,_=>rfl
 | .nat _ _,_=>rfl
 | .u8,_=>rfl
 | .bytes _ _,_=>rfl
 | .text _ _ _ _,_=>rfl
 | .list _ _ c,a=>Lu (fun x=>oJ c x) a
 | .pair c d,a=>by
  show(iE (c.enc a.1)&&(iE (d.enc a.2)&&true))=true
  rw[oJ c a.1,oJ d a.2]<;>rfl
 | .triple c d e,a=>by
  show(iE (c.enc a.1)&&(iE (d.enc a.2.1)&&(iE (e.enc a.2.2)&&true)))=true
  rw[oJ c a.1,oJ d a.2.1,oJ e a.2.2]<;>rfl
 | .option c,none=>rfl
 | .option c,some x=>oJ c x
theorem Lv:∀(cs:List Codec) (a:Codec.denoteAll cs),jD (Codec.encAll cs a)=true
 |[],_=>rfl
 |c::cs,a=>by
  show(iE (c.enc a.1)&&jD (Codec.encAll cs a.2))=true
  rw[oJ c a.1,Lv cs a.2]<;>rfl
theorem Fe:∀{xs:List WData} {d:WData},d∈xs→d.weight≤WData.weightAll xs
 |[],d,h=>absurd h (by simp)
 |x::r,d,h=>by
  show d.weight≤x.weight+1+WData.weightAll r
  rcases List.mem_cons.mp h with e|m
  ·rw[e]
   omega
  ·have z:=Fe m
   omega
def toV:Value→V
 | .none=> .aK
 | .bool b=> .bl b
 | .int i _=> .int i
 | .str x _=> .str x
 | .bytes b _=> .fP b
 | .ref a=> .ref a
 |_=> .aK
def iZ (A:List Addr):Value→Prop
 | .none=>True
 | .bool _=>True
 | .int _ _=>True
 | .str _ _=>True
 | .bytes _ _=>True
 | .ref a=>a∈A
 |_=>False
theorem iZ.mono {A B:List Addr} (h:∀a∈A,a∈B):∀{u:Value},iZ A u→iZ B u:=fun{u} x=>by
 cases u with
 |ref a=>exact h a x
 |none=>trivial
 |bool b=>trivial
 |int i t=>trivial
 |str s t=>trivial
 |bytes b t=>trivial
 |_=>exact False.elim x
theorem Zo {A:List Addr} {u:Value} (x:iZ A u):RelV (toV u) u:=by
 cases u with
 |ref a=>rfl
 |none=>rfl
 |bool b=>rfl
 |int i t=>exact⟨t,rfl⟩
 |str s t=>exact⟨t,rfl⟩
 |bytes b t=>exact⟨t,rfl⟩
 |_=>exact False.elim x
theorem su {A:List Addr}:∀{vs:List Value},(∀u∈vs,iZ A u)→Vals (vs.map toV) vs
 |[],_=> .nil
 |u::r,h=> .cons (Zo (h u (List.mem_cons_self ..))) (su fun x hx=>h x (List.mem_cons_of_mem _ hx))
def jE (h:Heap) (A:List Addr) (a:Addr):Prop:=∃vs:List Value,vs.length≤sizeLine∧(∀u∈vs,iZ A u)∧
 (h.get? a=some {cls:= .type "list",data:= .seq vs.toArray}∨h.get? a=some {cls:= .type "tuple",data:= .seq vs.toArray})
theorem jE.mono {h:Heap} {A B:List Addr} {a:Addr} (k:∀a∈A,a∈B) (x:jE h A a):jE h B a:=by
 obtain⟨vs,h1,h2,h3⟩:=x
 exact⟨vs,h1,fun u hu=>(h2 u hu).mono k,h3⟩
theorem BF {P:Params} {h:Heap}:∀{vs:List Value} {ds:List WData},WellAll P h vs ds→vs.length=ds.length
 |_,_,.nil=>rfl
 |_,_,.cons _ b=>by
  show _+1=_+1
  rw[BF b]
theorem Lw {P:Params} {h:Heap} {v:Value} {ds:List WData} (x:Well P h v (.list ds)):∃(a:Addr) (vs:List Value),v= .ref a∧h.get? a=some {cls:= .type "list",data:= .seq vs.toArray}∧WellAll P h vs ds:=by
 cases x with
 |list ho hall=>exact⟨_,_,rfl,ho,hall⟩
theorem Lx {P:Params} {h:Heap} {v:Value} {ds:List WData} (x:Well P h v (.tuple ds)):∃(a:Addr) (vs:List Value),v= .ref a∧h.get? a=some {cls:= .type "tuple",data:= .seq vs.toArray}∧WellAll P h vs ds:=by
 cases x with
 |tuple ho hall=>exact⟨_,_,rfl,ho,hall⟩
theorem Ly {P:Params} {h:Heap} {us:List Value} {d:WData} {ds:List WData} (x:WellAll P h us (d::ds)):∃(v:Value) (vs:List Value),us=v::vs∧Well P h v d∧WellAll P h vs ds:=by
 cases x with
 |cons a b=>exact⟨_,_,rfl,a,b⟩
theorem Lz {n:Nat} (h:n≤1048576):n≤sizeLine:=Nat.le_trans h (by decide)
section
variable {P:Params} {h:Heap}
mutual
theorem Zp:∀(d:WData) (v:Value),Well P h v d→iE d=true→d.weight≤1048576→∃A:List Addr,iZ A v∧∀a∈A,jE h A a
 | .none,_,x,_,_=>by
  cases x
  exact⟨[],trivial,fun a m=>absurd m (by simp)⟩
 | .bool b,_,x,_,_=>by
  cases x
  exact⟨[],trivial,fun a m=>absurd m (by simp)⟩
 | .int i,_,x,_,_=>by
  cases x
  exact⟨[],trivial,fun a m=>absurd m (by simp)⟩
 | .str s,_,x,_,_=>by
  cases x
  exact⟨[],trivial,fun a m=>absurd m (by simp)⟩
 | .bytes b,_,x,_,_=>by
  cases x
  exact⟨[],trivial,fun a m=>absurd m (by simp)⟩
 | .list ds,_,x,p,z=>by
  obtain⟨a,vs,rfl,ho,hall⟩:=Lw x
  have z2:WData.weightAll ds≤1048576:=z
  obtain⟨A,h1,h2⟩:=BG ds _ hall p fun d hd=>Nat.le_trans (Fe hd) z2
  have k:∀b∈A,b∈a::A:=fun b hb=>List.mem_cons_of_mem _ hb
  refine⟨a::A,List.mem_cons_self ..,fun b hb=>?_⟩
  rcases List.mem_cons.mp hb with e|m
  ·rw[e]
   exact⟨vs,Lz (by rw[BF hall];exact Nat.le_trans (W.length_le_weightAllW ds) z2),fun u hu=>(h1 u hu).mono k,.inl ho⟩
  ·exact(h2 b m).mono k
 | .tuple ds,_,x,p,z=>by
  obtain⟨a,vs,rfl,ho,hall⟩:=Lx x
  have z2:WData.weightAll ds≤1048576:=z
  obtain⟨A,h1,h2⟩:=BG ds _ hall p fun d hd=>Nat.le_trans (Fe hd) z2
  have k:∀b∈A,b∈a::A:=fun b hb=>List.mem_cons_of_mem _ hb
  refine⟨a::A,List.mem_cons_self ..,fun b hb=>?_⟩
  rcases List.mem_cons.mp hb with e|m
  ·rw[e]
   exact⟨vs,Lz (by rw[BF hall];exact Nat.le_trans (W.length_le_weightAllW ds) z2),fun u hu=>(h1 u hu).mono k,.inr ho⟩
  ·exact(h2 b m).mono k
 | .float _,_,_,p,_=>Bool.noConfusion (show false=true from p)
 | .dict _,_,_,p,_=>Bool.noConfusion (show false=true from p)
 | .bytearray _,_,_,p,_=>Bool.noConfusion (show false=true from p)
 | .set _,_,_,p,_=>Bool.noConfusion (show false=true from p)
 | .frozenset _,_,_,p,_=>Bool.noConfusion (show false=true from p)
 | .obj _ _,_,_,p,_=>Bool.noConfusion (show false=true from p)
theorem BG:∀(ds:List WData) (vs:List Value),WellAll P h vs ds→jD ds=true→(∀d∈ds,d.weight≤1048576)→∃A:List Addr,(∀u∈vs,iZ A u)∧∀a∈A,jE h A a
 |[],_,x,_,_=>by
  cases x
  exact⟨[],fun u m=>absurd m (by simp),fun a m=>absurd m (by simp)⟩
 |d::ds,_,x,p,z=>by
  obtain⟨v,vs,rfl,x1,x2⟩:=Ly x
  have q:iE d=true∧jD ds=true:=Bool.and_eq_true_iff.mp p
  obtain⟨A,a1,a2⟩:=Zp d v x1 q.1 (z d (List.mem_cons_self ..))
  obtain⟨B,b1,b2⟩:=BG ds vs x2 q.2 fun e he=>z e (List.mem_cons_of_mem _ he)
  have kA:∀b∈A,b∈A++B:=fun b hb=>List.mem_append.mpr (.inl hb)
  have kB:∀b∈B,b∈A++B:=fun b hb=>List.mem_append.mpr (.inr hb)
  refine⟨A++B,fun u hu=>?_,fun b hb=>?_⟩
  ·rcases List.mem_cons.mp hu with e|m
   ·rw[e]
    exact a1.mono kA
   ·exact(b1 u m).mono kB
  ·rcases List.mem_append.mp hb with m|m
   ·exact(a2 b m).mono kA
   ·exact(b2 b m).mono kB
end
end
def BH (o:Obj):Option HO:=match o.data with
 | .seq vs _=>if(o.cls==Value.type "list")=true then some (.fC o (.lst (vs.toList.map toV)))else some (.fC o (.tup (vs.toList.map toV)))
 |_=>none
def fO (K:W.Frag) (h:Heap) (A:List Addr):Hp:=fun b=>if b∈A then(if(K.lookup b).isNone=true then(h.get? b).bind BH else none)else none
def sy (H:Hp):Prop:=∀b,H b=none∨∃o u,H b=some (.fC o u)
theorem LA (vs:List Value):BH {cls:= .type "list",data:= .seq vs.toArray}=some (.fC {cls:= .type "list",data:= .seq vs.toArray} (.lst (vs.map toV))):=by
 show(if(Value.type "list"==Value.type "list")=true then some (HO.fC {cls:= .type "list",data:= .seq vs.toArray} (.lst (vs.toArray.toList.map toV)))else some (HO.fC {cls:= .type "list",data:= .seq vs.toArray} (.tup (vs.toArray.toList.map toV))))=_
 rw[if_pos (beq_self_eq_true _)]
theorem LB (vs:List Value):BH {cls:= .type "tuple",data:= .seq vs.toArray}=some (.fC {cls:= .type "tuple",data:= .seq vs.toArray} (.tup (vs.map toV))):=by
 show(if(Value.type "tuple"==Value.type "list")=true then some (HO.fC {cls:= .type "tuple",data:= .seq vs.toArray} (.lst (vs.toArray.toList.map toV)))else some (HO.fC {cls:= .type "tuple",data:= .seq vs.toArray} (.tup (vs.toArray.toList.map toV))))=_
 rw[if_neg (by decide)]
section
variable {P:Program} {w:World} {K:W.Frag} {h:Heap} {A:List Addr}
theorem BI {b:Addr} {o:Obj} (hb:b∈A) (hk:K.lookup b=none) (e:h.get? b=some o):fO K h A b=BH o:=by
 unfold fO
 rw[if_pos hb,hk,if_pos (show(none:Option Obj).isNone=true from rfl),e]<;>rfl
theorem Zq {b:Addr} {u:HO} (q:fO K h A b=some u):b∈A∧K.lookup b=none:=by
 unfold fO at q
 by_cases hb:b∈A
 ·rw[if_pos hb]at q
  cases hk:K.lookup b with
  |none=>exact⟨hb,rfl⟩
  |some o=>
   rw[hk,if_neg (by simp)]at q
   cases q
 ·rw[if_neg hb]at q
  cases q
theorem BJ (ar:∀a∈A,jE h A a) {b:Addr} {u:HO} (q:fO K h A b=some u):K.lookup b=none∧∃vs:List Value,vs.length≤sizeLine∧(∀u∈vs,iZ A u)∧
  ((h.get? b=some {cls:= .type "list",data:= .seq vs.toArray}∧u= .fC {cls:= .type "list",data:= .seq vs.toArray} (.lst (vs.map toV)))∨
   (h.get? b=some {cls:= .type "tuple",data:= .seq vs.toArray}∧u= .fC {cls:= .type "tuple",data:= .seq vs.toArray} (.tup (vs.map toV)))):=by
 obtain⟨hb,hk⟩:=Zq q
 obtain⟨vs,h1,h2,h3⟩:=ar b hb
 refine⟨hk,vs,h1,h2,?_⟩
 rcases h3 with e|e
 ·rw[BI hb hk e,LA]at q
  exact .inl ⟨e,(Option.some.inj q).symm⟩
 ·rw[BI hb hk e,LB]at q
  exact .inr ⟨e,(Option.some.inj q).symm⟩
theorem Zr (ar:∀a∈A,jE h A a):sy (fO K h A):=fun b=>by
 cases q:fO K h A b with
 |none=>exact .inl rfl
 |some u=>
  obtain⟨_,vs,_,_,⟨_,e⟩|⟨_,e⟩⟩:=BJ ar q
  ·exact .inr ⟨_,_,by rw[e]⟩
  ·exact .inr ⟨_,_,by rw[e]⟩
theorem Zs (ar:∀a∈A,jE h A a):cX P w (fO K h A) h:=fun b u q=>by
 obtain⟨_,vs,h1,h2,⟨e,rfl⟩|⟨e,rfl⟩⟩:=BJ ar q
 ·exact⟨e,by rw[List.length_map];exact h1,vs,_,su h2,e⟩
 ·exact⟨e,by rw[List.length_map];exact h1,vs,su h2,_,e,rfl,_,rfl⟩
theorem BK {c c':Value} {vs us:List Value} (e:(some {cls:=c,data:= .seq vs.toArray}:Option Obj)=some {cls:=c',data:= .seq us.toArray}):c=c'∧vs=us:=by
 have e1:=Option.some.inj e
 have e2:c=c':=congrArg Obj.cls e1
 have e3:Data.seq vs.toArray=Data.seq us.toArray:=congrArg Obj.data e1
 injection e3 with e4
 refine⟨e2,?_⟩
 have e5:=congrArg Array.toList e4
 simpa using e5
theorem Zt (KX:K.In h) (ar:∀a∈A,jE h A a) {a:Addr} {vs:List Value} (ha:a∈A) (e:h.get? a=some {cls:= .type "list",data:= .seq vs.toArray}):(∀u∈vs,iZ A u)∧aJ K (fO K h A) a (vs.map toV):=by
 obtain⟨us,h1,h2,h3⟩:=ar a ha
 have hu:us=vs:=by
  rcases h3 with q|q
  ·rw[e]at q
   exact(BK q).2.symm
  ·rw[e]at q
   exact absurd (Value.type.inj (BK q).1) (by decide)
 subst hu
 refine⟨h2,?_⟩
 cases hk:K.lookup a with
 |none=>exact .inl (.inr ⟨_,by rw[BI ha hk e,LA]⟩)
 |some o=>
  have e2:=KX a o hk
  rw[e]at e2
  obtain rfl:=Option.some.inj e2
  exact .inr ⟨_,us.toArray,_,hk,rfl,rfl,rfl,by rw[List.size_toArray];exact h1,by simpa using su h2⟩
theorem Zu (KX:K.In h) (ar:∀a∈A,jE h A a) {a:Addr} {vs:List Value} (ha:a∈A) (e:h.get? a=some {cls:= .type "tuple",data:= .seq vs.toArray}):(∀u∈vs,iZ A u)∧cI K (fO K h A) a (vs.map toV):=by
 obtain⟨us,h1,h2,h3⟩:=ar a ha
 have hu:us=vs:=by
  rcases h3 with q|q
  ·rw[e]at q
   exact absurd (Value.type.inj (BK q).1) (by decide)
  ·rw[e]at q
   exact(BK q).2.symm
 subst hu
 refine⟨h2,?_⟩
 cases hk:K.lookup a with
 |none=>exact .inl (.inr ⟨_,by rw[BI ha hk e,LB]⟩)
 |some o=>
  have e2:=KX a o hk
  rw[e]at e2
  obtain rfl:=Option.some.inj e2
  exact .inr ⟨_,us.toArray,_,hk,rfl,rfl,by rw[List.size_toArray];exact h1,by simpa using su h2⟩
mutual
theorem Zv {Pm:Params} (KX:K.In h) (ar:∀a∈A,jE h A a):∀(d:WData) (v:Value),Well Pm h v d→iE d=true→iZ A v→Dw K (fO K h A) (toV v) d
 | .none,_,x,_,_=>by
  cases x
  exact .aK
 | .bool b,_,x,_,_=>by
  cases x
  exact .bl b
 | .int i,_,x,_,_=>by
  cases x
  exact .int i
 | .str s,_,x,_,_=>by
  cases x
  exact .str s
 | .bytes b,_,x,_,_=>by
  cases x
  have z:=Dw.fP (K:=K) (H:=fO K h A) b.toArray
  exact z
 | .list ds,_,x,p,hu=>by
  obtain⟨a,vs,rfl,ho,hall⟩:=Lw x
  obtain⟨h2,hs⟩:=Zt KX ar hu ho
  exact .lst hs (BL KX ar ds _ hall p h2)
 | .tuple ds,_,x,p,hu=>by
  obtain⟨a,vs,rfl,ho,hall⟩:=Lx x
  obtain⟨h2,hs⟩:=Zu KX ar hu ho
  exact .tup hs (BL KX ar ds _ hall p h2)
 | .float _,_,_,p,_=>Bool.noConfusion (show false=true from p)
 | .dict _,_,_,p,_=>Bool.noConfusion (show false=true from p)
 | .bytearray _,_,_,p,_=>Bool.noConfusion (show false=true from p)
 | .set _,_,_,p,_=>Bool.noConfusion (show false=true from p)
 | .frozenset _,_,_,p,_=>Bool.noConfusion (show false=true from p)
 | .obj _ _,_,_,p,_=>Bool.noConfusion (show false=true from p)
theorem BL {Pm:Params} (KX:K.In h) (ar:∀a∈A,jE h A a):∀(ds:List WData) (vs:List Value),WellAll Pm h vs ds→jD ds=true→(∀u∈vs,iZ A u)→iY K (fO K h A) (vs.map toV) ds
 |[],_,x,_,_=>by
  cases x
  exact .nil
 |d::ds,_,x,p,hu=>by
  obtain⟨v,vs,rfl,x1,x2⟩:=Ly x
  have q:iE d=true∧jD ds=true:=Bool.and_eq_true_iff.mp p
  exact .cons (Zv KX ar d v x1 q.1 (hu _ (List.mem_cons_self ..))) (BL KX ar ds vs x2 q.2 fun u m=>hu u (List.mem_cons_of_mem _ m))
end
end
theorem Zw {P:Program} {w:World} {K:W.Frag} {mg mb:Str→Option Value} {CX:iI} {k:Nat} {fa:Addr} {fd:FuncData} {ps:List Str} {sp:Sp} {s₁:Shared} {vals:List Value} {ds:List WData} {R:W.WRecords} {cl:Str→Option Addr} {d0:WData}
  (KX:K.In s₁.heap) (hns:s₁.heap.Ns mainGlobals mg) (hb:s₁.heap.Ns builtinsNs mb) (Zx:∀x:Str,x≠"__name__"→mb x=bootBuiltins x) (hlim:s₁.heap.NoLimit) (hg:s₁.gens= #[])
  (hwl:WellAll w.params s₁.heap vals ds) (hpl:jD ds=true) (Ey:∀d∈ds,d.weight≤1048576) (hr:cD k callerA)
  (F:∀base:Heap,K.In base→base.Ns mainGlobals mg→dF P w K mg base CX k fa fd ps sp) (hbind:∀(s:Shared) (us:List Value),us.length=ps.length→BindsTo s fd ⟨us,[]⟩ (ps.zip us)) (hlen:ds.length=ps.length)
  (kN:∀(H:Hp) (xs:List V),sy H→iY K H xs ds→sp xs H (fun v H'=>Dw K H' v d0) fun _ _ _=>False)
  (vq:∀H e s',CX [] H s₁ (fun _ _ _=>False) e s'→False):
  codeAny (model P w) callerA (.call (.ref fa) ⟨vals,[]⟩) (fun r s'=>∃u as,r= .ok (.ret u)∧ReadsW R cl s'.heap u d0 as∧OldK s₁.heap s'.heap∧s'.os=s₁.os∧AllBare s'.gens) s₁:=by
 obtain⟨A,ho,ar⟩:=BG ds vals hwl hpl Ey
 have hO:sy (fO K s₁.heap A):=Zr ar
 have hok:cX P w (fO K s₁.heap A) s₁.heap:=Zs ar
 have hS:=BL KX ar ds vals hwl hpl ho
 have hV:=su ho
 have hK:∀b u,fO K s₁.heap A b=some u→K.lookup b=none:=fun b u q=>(BJ ar q).1
 have qL:∀{b:Addr} {o:Obj} {es:Array DictEntry} {ep:Nat},s₁.heap.get? b=some o→o.data= .dict es ep→fO K s₁.heap A b=none:=fun{b o es ep} e d=>by
  cases q:fO K s₁.heap A b with
  |none=>rfl
  |some u=>
   obtain⟨_,vs,_,_,⟨e2,_⟩|⟨e2,_⟩⟩:=BJ ar q
   ·rw[e2]at e
    cases e
    have d':Data.seq vs.toArray _=Data.dict es ep:=d
    cases d'
   ·rw[e2]at e
    cases e
    have d':Data.seq vs.toArray _=Data.dict es ep:=d
    cases d'
 generalize fO K s₁.heap A=H at hO hok hS hK qL
 have LC:∀{b:Addr} {o:Obj},s₁.heap.get? b=some o→H b=none→(lH s₁.heap H).get? b=some o:=fun e n=>LQ e n
 have BN:∀{b:Addr} {m:Str→Option Value},s₁.heap.Ns b m→(lH s₁.heap H).Ns b m:=fun{b m} ⟨o,es,ep,e,d,r⟩=>⟨o,es,ep,LC e (qL e d),d,r⟩
 have nK:∀b o,K.lookup b=some o→H b=none:=fun b o e=>by
  cases q:H b with
  |none=>rfl
  |some u=>
   rw[hK b u q]at e
   cases e
 have LD:K.In (lH s₁.heap H):=fun b o e=>LC (KX b o e) (nK b o e)
 have hM:Mod K mg (lH s₁.heap H):=⟨LD,BN hns,⟨mb,BN hb,Zx⟩,let ⟨mc,h1,h2⟩:=hlim;⟨mc,BN h1,h2⟩⟩
 have e0:o8 P w K mg (lH s₁.heap H) callerA [] s₁ H:=⟨rfl,hM,fun b o e=>LR e,Nat.le_of_eq (LP _ _),trivial,fun b hb=>absurd (show b∈([]:List Addr)from hb) (by simp),hok,.of_eq hg⟩
 have hl:vals.length=ps.length:=by rw[BF hwl];exact hlen
 refine codeAny_mono ((F _ LD (BN hns)).run callerA [] s₁ H ⟨vals,[]⟩ vals (vals.map toV) _ _ hr e0 (hbind s₁ vals hl) hV (kN H _ hO hS)) fun r s' x=>?_
 cases r with
 |error e=>exact(vq H e s' x).elim
 |ok fl=>
  cases fl with
  |next=>exact False.elim x
  |brk=>exact False.elim x
  |cont=>exact False.elim x
  |ret u=>
   obtain⟨v,H',os,bare,un,LF,r',q⟩:=x
   have kept:∀b o,s₁.heap.get? b=some o→s'.heap.get? b=some o:=fun b o e=>by
    cases q2:H b with
    |none=>exact un.keep b o e q2 (by intro z;exact absurd (show b∈([]:List Addr)from z) (by simp)) (by simp)
    |some u2=>
     rcases hO b with z|⟨ob,u3,z⟩
     ·rw[q2]at z
      cases z
     ·have z2:=un.lG b ob _ z
      obtain⟨e1,_⟩:=hok b _ z
      obtain⟨e2,_⟩:=LF b _ z2
      rw[e]at e1
      cases e1
      exact e2
   have Zy:K.In s'.heap:=fun b o e=>kept b o (KX b o e)
   obtain⟨as,hrd⟩:=Dw.reads (R:=R) (cl:=cl) LF Zy d0 v u q r'
   exact⟨u,as,rfl,hrd,OldK.of_keep kept,os,bare⟩
theorem Zz {ds:List WData} (h:WData.layableAll ds=true):∀d∈ds,d.weight≤1048576:=fun d hd=>
 (W.layableW_iff.mp (List.all_eq_true.mp h d hd)).2.2
theorem LG:∀(cs:List Codec) (a:Codec.denoteAll cs),(Codec.encAll cs a).length=cs.length
 |[],_=>rfl
 |c::cs,a=>by
  show(Codec.encAll cs a.2).length+1=cs.length+1
  rw[LG cs a.2]
theorem ZA {r:OpenSpec} {k:Nat} {q:Program} {loose:List Str} {XP:(Str→Option Value)→Heap→Prop} {YP:World→Heap→Prop} {d:DefRec} {K:Params→W.Frag} {CX:World→iI} {ps:List Str} {sp:World→Sp}
  (hdf:d.params.defaults=[]) (hlen:r.args.length=ps.length) (hr:cD k callerA)
  (hY:∀(w:World) (h:Heap),YP w h→(K w.params).In h)
  (F:∀(w:World) (mg:Str→Option Value) (fa:Addr) (h:Heap),YP w h→(K w.params).In h→h.Ns mainGlobals mg→mg d.name=some (.ref fa)→
   ∃fd:FuncData,(∀(s:Shared) (us:List Value),us.length=ps.length→BindsTo s fd ⟨us,[]⟩ (ps.zip us))∧
    ∀base:Heap,(K w.params).In base→base.Ns mainGlobals mg→dF r.prog w (K w.params) mg base (CX w) k fa fd ps (sp w))
  (kN:∀(w:World) (H:Hp) (xs:List V) (a:Codec.denoteAll r.args),sy H→Codec.withinAll r.args a=true→Codec.app r.args r.asked a=true→iY (K w.params) H xs (Codec.encAll r.args a)→
   sp w xs H (fun v H'=>Dw (K w.params) H' v (r.ret.enc (Codec.app r.args r.f a))) fun _ _ _=>False)
  (vq:∀(w:World) (H:Hp) (s:Shared) (e:Value) (s':Shared),CX w [] H s (fun _ _ _=>False) e s'→False):
  W.WalkOS q loose XP YP r d [] (fun f vs=>PySem.call f vs):=by
 intro w eY s₁ mg mb G Y fa o pm cd doc dV kV ho hd hcd hD hmg hg args vals as hpre hlay hrd hwl hlo
 obtain⟨a,e1,e2⟩:=W.os_pre_some hpre
 obtain⟨e3,hwi⟩:=Codec.encAll_of_decAll r.args args a e1
 subst e3
 have KX:=hY w _ Y
 obtain⟨fd,hb,hF⟩:=F w mg fa _ Y KX G.T.g hmg
 refine W.enter_call (codeAny_mono (Zw (R:=[]) (cl:=classAt eY.heap) (d0:=r.ret.enc (Codec.app r.args r.f a)) KX G.T.g G.T.b G.T.builtins G.T.nolimit hg hwl (Lv _ _) (Zz hlay) hr hF hb (by rw[LG];exact hlen)
  (fun H xs hO hS=>kN w H xs a hO hwi e2 hS) fun H e s'=>vq w H s₁ e s') fun r' s' hq=>?_)
 obtain⟨u,as',rfl,h1,h2,h3,h4⟩:=hq
 exact⟨.inl ⟨u,_,as',rfl,fun _=>rfl,h1,(by show(match Codec.decAll r.args (Codec.encAll r.args a)with|some a=>W.same _ (r.ret.enc (Codec.app r.args r.f a))|none=>false)=true;rw[e1];exact W.same_iff.mpr rfl),fun z=>Bool.noConfusion (show false=true from z)⟩,h2,h3,h4⟩
theorem ZC {r:OpenSpec} {k:Nat} {q:Program} {loose:List Str} {XP:(Str→Option Value)→Heap→Prop} {YP:World→Heap→Prop} {d:DefRec} {K:Params→W.Frag} {CX:iI} {ps:List Str} {sp:W.Frag→Sp}
  (hdf:d.params.defaults=[]) (hlen:r.args.length=ps.length) (hr:cD k callerA)
  (hY:∀(w:World) (h:Heap),YP w h→(K w.params).In h)
  (F:∀(w:World) (mg:Str→Option Value) (fa:Addr) (h:Heap),YP w h→(K w.params).In h→h.Ns mainGlobals mg→mg d.name=some (.ref fa)→
   ∃fd:FuncData,(∀(s:Shared) (us:List Value),us.length=ps.length→BindsTo s fd ⟨us,[]⟩ (ps.zip us))∧
    ∀base:Heap,(K w.params).In base→base.Ns mainGlobals mg→dF r.prog w (K w.params) mg base CX k fa fd ps (sp (K w.params)))
  (kN:∀(K:W.Frag) (H:Hp) (xs:List V) (a:Codec.denoteAll r.args),sy H→Codec.withinAll r.args a=true→Codec.app r.args r.asked a=true→iY K H xs (Codec.encAll r.args a)→
   sp K xs H (fun v H'=>Dw K H' v (r.ret.enc (Codec.app r.args r.f a))) fun _ _ _=>False)
  (vq:∀(H:Hp) (s:Shared) (e:Value) (s':Shared),CX [] H s (fun _ _ _=>False) e s'→False):
  W.WalkOS q loose XP YP r d [] (fun f vs=>PySem.call f vs):=
 ZA (K:=K) (CX:=fun _=>CX) (sp:=fun w=>sp (K w.params)) hdf hlen hr hY F (fun w H xs a h1 h2 h3 h4=>kN (K w.params) H xs a h1 h2 h3 h4) fun _ H s e s'=>vq H s e s'
end L2
end
namespace My
open PySem PySem.Spec PyProof.Rows L2 PySem.W
open PySem.W (Frag)
open Path (Insn bitsOf State_ numbers inBits Range_ beginsFrom askTold littleOf helpersIn Bytes)
theorem ZD (K:W.Frag) (H:Hp) (xs:List V) (a:Codec.denoteAll PySem.Challenge.rw_judgedprograms_s01_answers.args) (hO:sy H) (hwi:Codec.withinAll PySem.Challenge.rw_judgedprograms_s01_answers.args a=true) (ZE:Codec.app PySem.Challenge.rw_judgedprograms_s01_answers.args PySem.Challenge.rw_judgedprograms_s01_answers.asked a=true) (hx:iY K H xs (Codec.encAll PySem.Challenge.rw_judgedprograms_s01_answers.args a)):
  Bj K B0 xs H (fun v H'=>Dw K H' v (PySem.Challenge.rw_judgedprograms_s01_answers.ret.enc (Codec.app PySem.Challenge.rw_judgedprograms_s01_answers.args PySem.Challenge.rw_judgedprograms_s01_answers.f a))) fun _ _ _=>False:=by
 cases hx with
 |cons h1 h2=>
  cases h2
  cases h1 with
  |lst hs ha=>
   have e:=L2.Ls a.1 _ ha
   subst e
   have hq:PyYqaaac.answers_asked a.1=true:=ZE
   obtain⟨cs,e1,e2,e3,e4⟩:=Zi hq
   refine⟨_,a.1,cs,fun R=>∃r,R=bM r∧iX r,rfl,hs,e1,e2,⟨Path.blank,rfl,Lm⟩,Zd cs e3,fun w' H' _ hw=>?_⟩
   rw[Zj e3 e4]at hw
   exact .lst (L2.aJ.of hw) (L2.Lr _)
theorem ZF {P:Program} {w:World} {K:W.Frag} {h:Heap} {mg:Str→Option Value} {fa:Addr} (KX:K.In h) (G:h.Ns mainGlobals mg) (hmg:mg "answers"=some (.ref fa)) (F:ur w K):
  ∃fd:FuncData,(∀(s:Shared) (us:List Value),us.length=(["calls"]:List Str).length→BindsTo s fd ⟨us,[]⟩ ((["calls"]:List Str).zip us))∧∀base:Heap,K.In base→base.Ns mainGlobals mg→dF P w K mg base gS 12 fa fd ["calls"] (Bj K B0):=by
 obtain⟨f,fd,e,hb,hF⟩:=aac (Zl (P:=P) KX G F)
 have e2:=hmg.symm.trans e
 cases e2
 exact⟨fd,hb,fun base _ _=>hF base⟩
theorem ZZ {q:Program} {loose:List Str} {XP:(Str→Option Value)→Heap→Prop} {YP:World→Heap→Prop} {d:DefRec} {K:Params→W.Frag} (hdf:d.params.defaults=[]) (hn:d.name="answers") (hY:∀(w:World) (h:Heap),YP w h→(K w.params).In h) (F:∀w:World,ur w (K w.params)):
  W.WalkOS q loose XP YP PySem.Challenge.rw_judgedprograms_s01_answers d [] (fun f vs=>PySem.call f vs):=
 L2.ZC (r:=PySem.Challenge.rw_judgedprograms_s01_answers) (k:=12) (CX:=L2.gS) (K:=K) (ps:=["calls"]) (sp:=fun K=>Bj K B0) hdf rfl ⟨rfl,by decide,by decide⟩ hY (fun w mg fa h Y KX G hmg=>ZF KX G (by rw[hn]at hmg;exact hmg) (F w)) ZD (fun _ _ _ _ z=>z)
end My
theorem PySem.Challenge.cw_judgedprograms_s01_answers_holds : PySem.Challenge.rw_judgedprograms_s01_answers.Holds :=
  My.head My.ZZ
