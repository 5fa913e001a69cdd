import PyProof.Rows.All
import Wide.All
import OpenK.AllK
import Wide.FinOn
import PyProof.EqAt
import PyProof.EqKinds
import PyProof.TupleCall
import KE.BitLaws
import Open.SpecLaws
import KE.OsHead
import KE.OsGo
import KE.KDictSum
import KE.KSortTup
import PyProof.Rows.SortG.SortRunsSt
import PyProof.Rows.SetFrom
import PySem.Challenge.RW_keyhousedesk_s01_answers
import PyFlatLaws
import PyWqanec
set_option Elab.async false
set_option linter.all false
set_option maxRecDepth 100000
set_option maxHeartbeats 2000000
section
namespace L2
open PySem PySem.Spec PyProof.Rows
abbrev Key:=Sum Int Str
def zO:Key→Value→Bool
 | .inl k,v=>Value.isInt k v
 | .inr x,v=>Value.isStrOf x v
def aj1 (w:World):Key→Int
 | .inl k=>hashInt k
 | .inr x=>hashStr w x
theorem fH:∀{k:Key}{v:Value},zO k v=true→(∃i t,k=Sum.inl i∧v=Value.int i t)∨(∃x t,k=Sum.inr x∧v=Value.str x t)
 | .inl i,v,h=>by
  obtain⟨t,e⟩:=Value.isInt_shape (k:=i) (v:=v) h;exact .inl ⟨i,t,rfl,e⟩
 | .inr x,v,h=>by
  obtain⟨t,e⟩:=Value.isStrOf_shape (x:=x) (v:=v) h;exact .inr ⟨x,t,rfl,e⟩
theorem ado (i:Int) (t:Tok):zO (.inl i) (.int i t)=true:=by simp[zO,Value.isInt]
theorem adp (x:Str) (t:Tok):zO (.inr x) (.str x t)=true:=by simp[zO,Value.isStrOf]
theorem ah7 (a b:Int):decide ((Sum.inl a:Key)=Sum.inl b)=(a==b):=by
 by_cases e:a=b
 ·subst e;simp
 ·have h:¬(Sum.inl a:Key)=Sum.inl b:=fun q=>e (Sum.inl.inj q)
  rw[decide_eq_false h];exact(beq_eq_false_iff_ne.mpr e).symm
theorem ah8 (a b:Str):decide ((Sum.inr a:Key)=Sum.inr b)=decide (a=b):=by
 by_cases e:a=b
 ·subst e;simp
 ·have h:¬(Sum.inr a:Key)=Sum.inr b:=fun q=>e (Sum.inr.inj q)
  rw[decide_eq_false h,decide_eq_false e]
theorem ah9 (a:Int) (b:Str):decide ((Sum.inl a:Key)=Sum.inr b)=false:=decide_eq_false (fun q=>nomatch q)
theorem aia (a:Str) (b:Int):decide ((Sum.inr a:Key)=Sum.inl b)=false:=decide_eq_false (fun q=>nomatch q)
def dJ (prog:Program) (w:World):PySem.KeyKind prog w Key where
 is:=zO
 hash:=aj1 w
 inj:=fun v a b ha hb=>by
  rcases fH ha with⟨i,t,rfl,rfl⟩|⟨x,t,rfl,rfl⟩
  ·rcases fH hb with⟨j,u,rfl,e⟩|⟨y,u,rfl,e⟩
   ·injection e with e1 _;rw[e1]
   ·exact nomatch e
  ·rcases fH hb with⟨j,u,rfl,e⟩|⟨y,u,rfl,e⟩
   ·exact nomatch e
   ·injection e with e1 _;rw[e1]
 byValue:=fun k v h=>by
  rcases fH h with⟨i,t,rfl,rfl⟩|⟨x,t,rfl,rfl⟩<;>rfl
 pyHash:=fun hv h=>by
  rcases fH hv with⟨i,t,rfl,rfl⟩|⟨x,t,rfl,rfl⟩
  ·exact wpAny_pyHash_int h
  ·exact wpAny_pyHash_str h
 eqBool:=fun hu hv h=>by
  rcases fH hu with⟨i,t,rfl,rfl⟩|⟨x,t,rfl,rfl⟩
  ·rcases fH hv with⟨j,u,rfl,rfl⟩|⟨y,u,rfl,rfl⟩
   ·rw[ah7]at h;exact wpAny_eqBool_int h
   ·rw[ah9]at h;exact SeqAt.EqAt.int_str i t y u _ _ _ _ h
  ·rcases fH hv with⟨j,u,rfl,rfl⟩|⟨y,u,rfl,rfl⟩
   ·rw[aia]at h;exact SeqAt.EqAt.str_int x t j u _ _ _ _ h
   ·rw[ah8]at h;exact wpAny_eqBool_str h
 «strs»:=fun k x t v h=>by
  rcases fH h with⟨i,u,rfl,e⟩|⟨y,u,rfl,e⟩
  ·exact nomatch e
  ·injection e with e1 _
   subst e1;cases v<;>rfl
theorem Zf (prog:Program) (w:World) (i:Int) (t:Tok):(dJ prog w).is (.inl i) (.int i t)=true:=ado i t
theorem Zg (prog:Program) (w:World) (x:Str) (t:Tok):(dJ prog w).is (.inr x) (.str x t)=true:=adp x t
end L2
namespace L2
open PySem PySem.Spec PyProof.Rows
inductive V where
 |non|bl (b:Bool)|int (i:Int)|str (x:Str)|Fe (b:Array UInt8)|flt (b:UInt64)|ref (a:Addr)|ty (n:String)
 deriving DecidableEq
def RelV:V→Value→Prop
 | .non,u=>u=Value.none
 | .bl b,u=>u=Value.bool b
 | .int i,u=>∃t,u=Value.int i t
 | .str x,u=>∃t,u=Value.str x t
 | .Fe b,u=>∃t,u=Value.bytes b t
 | .flt b,u=>∃t,u=Value.float b t
 | .ref a,u=>u=Value.ref a
 | .ty n,u=>u=Value.type n
abbrev Vals:List V→List Value→Prop:=Paired RelV
theorem Vals.length {xs:List V}{us:List Value}(r:Vals xs us):xs.length=us.length:=Paired.length r
theorem Vals.get:∀{xs:List V}{us:List Value}{i:Nat}{x:V},Vals xs us→xs[i]?=some x→∃u,us[i]?=some u∧RelV x u
 |_,_,_,_, .nil,e=>by simp at e
 |_,_,0,_, .cons r _,e=>by simp at e;subst e;exact⟨_,rfl,r⟩
 |_,_,i+1,x, .cons _ t,e=>by
  obtain⟨u,h1,h2⟩:=Vals.get (i:=i) (x:=x) t (by simpa using e);exact⟨u,by simpa using h1,h2⟩
theorem Vals.set {x:V}{u:Value}(r:RelV x u):∀{xs:List V}{us:List Value}(i:Nat),Vals xs us→Vals (xs.set i x) (us.set i u)
 |_,_,_, .nil=> .nil
 |_,_,0, .cons _ t=> .cons r t
 |_,_,i+1, .cons q t=> .cons q (Vals.set r i t)
theorem Vals.append:∀{xs ys:List V}{us ws:List Value},Vals xs us→Vals ys ws→Vals (xs++ys) (us++ws)
 |_,_,_,_, .nil,s=>s
 |_,_,_,_, .cons r t,s=> .cons r (Vals.append t s)
theorem Vals.take:∀{xs:List V}{us:List Value}(n:Nat),Vals xs us→Vals (xs.take n) (us.take n)
 |_,_,0,_=> .nil
 |_,_,_+1, .nil=> .nil
 |_,_,n+1, .cons r t=> .cons r (Vals.take n t)
theorem Vals.drop:∀{xs:List V}{us:List Value}(n:Nat),Vals xs us→Vals (xs.drop n) (us.drop n)
 |_,_,0,r=>r
 |_,_,_+1, .nil=> .nil
 |_,_,n+1, .cons _ t=>Vals.drop n t
def wD:Option V→Option Value→Prop
 |some v,some u=>RelV v u
 |none,none=>True
 |_,_=>False
def KV {κ:Type}:List (κ×V)→List (κ×Value)→Prop:=Paired fun(p:κ×V) (q:κ×Value)=>p.1=q.1∧RelV p.2 q.2
def kV:Key→V
 | .inl i=> .int i
 | .inr x=> .str x
inductive HO where
 /-- a list -/
 |lst (xs:List V)
 /-- a tuple (never changes) -/
 |tup (xs:List V)
 /-- a dict whose keys are ints and texts;one whose keys are tuples of ints and texts (the empty one is both) -/
 |dK (kvs:List (Key×V))|dT (kvs:List (List Key×V))
 /-- a set of ints:its members,its size -/
 |set (S:Int→Bool) (n:Nat)
 /-- an instance of the class at C,its dict at dx,its attributes -/
 |ins (C dx:Addr) (fs:List (Str×V))
 /-- the dict of the instance at x -/
 |own (x:Addr)
 /-- the dict of an exception -/
 |xd (fs:List (Str×V))
 /-- a bound method,f of x -/
 |met (f x:Addr)
 /-- a range object lo,lo+1, .. below hi -/
 |rng (lo hi:Int)
 /-- a thing that is known to the object (the script;a dict while a loop walks it):read,never written while it is so -/
 |cM (o:Obj) (u:HO)
 /-- a code object's table -/
 |tbl (ps:Array Value)
 /-- any other thing,by what is true of its one object (a def of one's own:akx a S n:=HO.ext fun h=> ..) -/
 |ext (φ:Heap→Prop)
abbrev Hp:=Addr→Option HO
def upd (H:Hp) (a:Addr) (o:HO):Hp:=fun b=>if b=a then some o else H b
theorem aq {H:Hp}{a:Addr}{o:HO}:upd H a o a=some o:=by unfold upd;rw[if_pos rfl]
theorem aJ {H:Hp}{a b:Addr}{o:HO}(h:b≠a):upd H a o b=H b:=by unfold upd;rw[if_neg h]
theorem cU {H:Hp}{a:Addr}{o u:HO}:upd (upd H a o) a u=upd H a u:=by
 funext b;unfold upd;split<;>rfl
theorem eX {H:Hp}{a b:Addr}{o u:HO}(h:H a=some o) (h':H b=some u) (d:o≠u):a≠b:=by
 intro e;subst e;rw[h]at h';exact d (Option.some.inj h')
theorem aQ {H:Hp}{a b:Addr}{o:HO}(h:H a=some o) (h':H b=none):a≠b:=by
 intro e;subst e;rw[h]at h';cases h'
section
variable (P:Program) (w:World)
def fD (H:Hp) (h:Heap) (a:Addr):HO→Prop
 | .lst xs=>xs.length≤sizeLine∧∃(its:List Value) (n:Nat),Vals xs its∧h.get? a=some {cls:= .type "list",data:= .seq its.toArray n}
 | .tup xs=>xs.length≤sizeLine∧∃its:List Value,Vals xs its∧IsTup h a its.toArray
 | .dK kvs=>kvs.length≤sizeLine∧(a==sysModules)=false∧∃vs,KV kvs vs∧h.DictOf (dJ P w) a vs
 | .dT kvs=>kvs.length≤sizeLine∧(a==sysModules)=false∧∃xs:List (List Key×Addr×Value),
   Paired (fun(p:List Key×V) (q:List Key×Addr×Value)=>p.1=q.1∧H q.2.1=some (.tup (p.1.map kV))∧RelV p.2 q.2.2) kvs xs∧
   ∃o es ep,h.get? a=some o∧o.ExactDict∧o.data= .dict es ep∧es.toList=xs.map (entryOfKey (tupleKind (dJ P w)))∧(xs.map (·.1)).Nodup
 | .set S n=>h.SetOf (intKind P w) a S n
 | .ins C dx fs=>H dx=some (.own a)∧fs.length≤1000∧dx≠a∧h.get? a=some (PySem.W.instObj C dx)∧
   ∃mA,h.Ns1 dx mA∧(∀f,wD (fs.lookup f) (mA f))∧PySem.Within mA (fs.map (·.1))
 | .own _=>∃o,h.get? a=some o
 | .xd fs=>∃mA,h.Ns1 a mA∧∀f,wD (fs.lookup f) (mA f)
 | .rng lo hi=>∃t u v,h.get? a=some {cls:= .type "range",data:= .fields #[.int lo t, .int hi u, .int 1 v]}
 | .cM o u=>h.get? a=some o∧fD H h a u
 | .tbl ps=>h.get? a=some {cls:= .none,data:= .fields ps}
 | .met f x=>h.get? a=some (PySem.W.methodObj (.ref f) (.ref x))
 | .ext φ=>φ h∧(∃o,h.get? a=some o)∧∀h1 h2:Heap,φ h1→(∀o,h1.get? a=some o→h2.get? a=some o)→φ h2
def nY (H:Hp) (h:Heap):Prop:=∀a o,H a=some o→fD P w H h a o
end
section
variable {P:Program}{w:World}{H H':Hp}{h h':Heap}{a:Addr}{o:HO}
theorem fD.lt (x:fD P w H h a o):a<h.objs.size:=by
 cases o with
 |lst xs=>obtain⟨_,_,_,_,e⟩:=x;exact Heap.lt_size e
 |tup xs=>obtain⟨_,_,_,p⟩:=x;exact p.lt
 |dK kvs=>obtain⟨_,_,_,_,o,_,_,e,_⟩:=x;exact Heap.lt_size e
 |dT kvs=>obtain⟨_,_,_,_,o,_,_,e,_⟩:=x;exact Heap.lt_size e
 |set S n=>obtain⟨o,_,_,_,e,_⟩:=x;exact Heap.lt_size e
 |ins C dx fs=>obtain⟨_,_,_,e,_⟩:=x;exact Heap.lt_size e
 |own y=>obtain⟨_,e⟩:=x;exact Heap.lt_size e
 |xd fs=>obtain⟨_,⟨_,_,_,e,_⟩,_⟩:=x;exact Heap.lt_size e
 |rng lo hi=>obtain⟨_,_,_,e⟩:=x;exact Heap.lt_size e
 |cM ob u=>obtain⟨e,_⟩:=x;exact Heap.lt_size e
 |tbl ps=>exact Heap.lt_size (show h.get? a=some _ from x)
 |met f y=>exact Heap.lt_size (show h.get? a=some _ from x)
 |ext φ=>obtain⟨_,⟨_,e⟩,_⟩:=x;exact Heap.lt_size e
theorem Paired.ags {α β:Type}{F G:α→β→Prop}:∀{l₁:List α}{l₂:List β},Paired F l₁ l₂→(∀a b,F a b→G a b)→Paired G l₁ l₂
 |_,_, .nil,_=> .nil
 |_,_, .cons r t,f=> .cons (f _ _ r) (Paired.ags t f)
theorem fD.stay (x:fD P w H h a o) (k:∀b u,(b=a∨H b=some (.own a))→h.get? b=some u→h'.get? b=some u)
  (ho:∀b,H b=some (.own a)→H' b=some (.own a)) (ht:∀b xs,H b=some (.tup xs)→H' b=some (.tup xs)):fD P w H' h' a o:=by
 induction o with
 |lst xs=>obtain⟨z,its,n,r,e⟩:=x;exact⟨z,its,n,r,k _ _ (.inl rfl) e⟩
 |tup xs=>obtain⟨z,its,r,ob,e,c⟩:=x;exact⟨z,its,r,ob,k _ _ (.inl rfl) e,c⟩
 |dK kvs=>obtain⟨z,y,vs,r,ob,es,ep,e,c⟩:=x;exact⟨z,y,vs,r,ob,es,ep,k _ _ (.inl rfl) e,c⟩
 |dT kvs=>
  obtain⟨z,y,xs,r,ob,es,ep,e,c⟩:=x;exact⟨z,y,xs,Paired.ags r fun p q z=>⟨z.1,ht _ _ z.2.1,z.2.2⟩,ob,es,ep,k _ _ (.inl rfl) e,c⟩
 |set S n=>obtain⟨ob,es,ep,t,e,c⟩:=x;exact⟨ob,es,ep,t,k _ _ (.inl rfl) e,c⟩
 |ins C dx fs=>
  obtain⟨d,z,ne,e,mA,⟨od,es,ep,e2,c⟩,r⟩:=x;exact⟨ho _ d,z,ne,k _ _ (.inl rfl) e,mA,⟨od,es,ep,k _ _ (.inr d) e2,c⟩,r⟩
 |own y=>obtain⟨ob,e⟩:=x;exact⟨ob,k _ _ (.inl rfl) e⟩
 |xd fs=>obtain⟨mA,⟨od,es,ep,e,c⟩,r⟩:=x;exact⟨mA,⟨od,es,ep,k _ _ (.inl rfl) e,c⟩,r⟩
 |rng lo hi=>obtain⟨t,u,v,e⟩:=x;exact⟨t,u,v,k _ _ (.inl rfl) e⟩
 |cM ob u ih=>obtain⟨e,q⟩:=x;exact⟨k _ _ (.inl rfl) e,ih q⟩
 |tbl ps=>
  have e:h.get? a=some {cls:= .none,data:= .fields ps}:=x;show h'.get? a=some {cls:= .none,data:= .fields ps};exact k a _ (.inl rfl) e
 |met f y=>
  have e:h.get? a=some (PySem.W.methodObj (.ref f) (.ref y)):=x;show h'.get? a=some (PySem.W.methodObj (.ref f) (.ref y));exact k a _ (.inl rfl) e
 |ext φ=>obtain⟨p,⟨o,e⟩,st⟩:=x;exact⟨st _ _ p fun o q=>k _ _ (.inl rfl) q,⟨o,k _ _ (.inl rfl) e⟩,st⟩
theorem nY.lt (x:nY P w H h) (e:H a=some o):a<h.objs.size:=(x a o e).lt
theorem nY.fresh (x:nY P w H h) (e:h.objs.size≤a):H a=none:=by
 cases q:H a with
 |none=>rfl
 |some u=>exact absurd (Nat.lt_of_lt_of_le (x.lt q) e) (Nat.lt_irrefl _)
theorem nY.kept (x:nY P w H h) (k:∀b u,h.get? b=some u→h'.get? b=some u):nY P w H h':=fun a o e=>
 (x a o e).stay (fun b u _ q=>k b u q) (fun _ q=>q) fun _ _ q=>q
theorem nY.laid (x:nY P w H h) (k:∀b u,h.get? b=some u→h'.get? b=some u) (hp:h.objs.size≤a) (new:fD P w (upd H a o) h' a o):nY P w (upd H a o) h':=fun b u e=>by
 have hn:=x.fresh hp;by_cases hb:b=a
 ·subst hb;rw[aq]at e;cases e;exact new
 ·rw[aJ hb]at e
  exact(x b u e).stay (fun c v _ q=>k c v q) (fun c q=>by rw[aJ (aQ q hn)];exact q) fun c xs q=>by rw[aJ (aQ q hn)];exact q
end
def Rd (H:Hp) (a:Addr) (u:HO):Prop:=H a=some u∨∃o,H a=some (.cM o u)
theorem Rd.ok {P:Program}{w:World}{H:Hp}{h:Heap}{a:Addr}{u:HO}(r:Rd H a u) (x:nY P w H h):fD P w H h a u:=by
 rcases r with r|⟨o,r⟩
 ·exact x a u r
 ·obtain⟨_,q⟩:=x a _ r
  exact q
def Mut:Option HO→Prop
 |some (.lst _)=>True
 |some (.dK _)=>True
 |some (.dT _)=>True
 |some (.set _ _)=>True
 |some (.ins _ _ _)=>True
 |some (.ext _)=>True
 |_=>False
section
variable {P:Program}{w:World}{H:Hp}{h h':Heap}{x e:Addr}{o':HO}
theorem nY.write (ok:nY P w H h) (mu:Mut (H x)) (he:e=x∨H e=some (.own x)) (k:∀b u,b≠e→h.get? b=some u→h'.get? b=some u) (heo:∃u,h'.get? e=some u)
  (new:fD P w (upd H x o') h' x o'):nY P w (upd H x o') h':=fun b u q=>by
 have ajf:∀c y,H c=some (.own y)→c≠x:=fun c y r z=>by subst z;rw[r]at mu;exact mu
 have aj2:∀c xs,H c=some (.tup xs)→c≠x:=fun c xs r z=>by subst z;rw[r]at mu;exact mu
 by_cases hb:b=x
 ·subst hb;rw[aq]at q;cases q;exact new
 ·rw[aJ hb]at q
  by_cases hbe:b=e
  ·have q':H b=some (.own x):=by
    rcases he with z|z
    ·exact absurd (hbe.trans z) hb
    ·rw[hbe];exact z
   rw[q]at q';cases q'
   obtain⟨v,hv⟩:=heo;exact⟨v,by rw[hbe];exact hv⟩
  ·refine(ok b u q).stay (fun c v hc r=>k c v ?_ r) (fun c r=>by rw[aJ (ajf c b r)];exact r) fun c xs r=>by rw[aJ (aj2 c xs r)];exact r
   rcases hc with rfl|hc
   ·exact hbe
   ·rintro rfl
    rcases he with z|z
    ·exact ajf c b hc z
    ·rw[hc]at z;cases z;exact hb rfl
end
structure Un (fs ex:List Addr) (H H':Hp) (h h':Heap):Prop where
 keep:∀b o,h.get? b=some o→H b=none→b∉fs→b∉ex→h'.get? b=some o
 slot:∀b o,h.get? b=some o→H b=none→b∈fs→b∉ex→∃sl,h'.get? b=some {o with slots:=sl}
 free:∀b o,h.get? b=some o→H b=none→b∉ex→H' b=none
 there:∀b o,h.get? b=some o→b∉ex→∃o',h'.get? b=some o'
 tups:∀b xs,H b=some (.tup xs)→H' b=some (.tup xs)
 Fo:∀b o u,H b=some (.cM o u)→H' b=some (.cM o u)
 Kw:∀b ps,H b=some (.tbl ps)→∃more,H' b=some (.tbl (ps++more))
section
variable {fs fs' ex ex':List Addr}{H H1 H2:Hp}{h h1 h2 h':Heap}{a x e:Addr}{o:HO}
theorem Un.any (u:Un fs ex H H1 h h1){b:Addr}{ob:Obj}(q:h.get? b=some ob) (n:H b=none) (hx:b∉ex):∃sl,h1.get? b=some {ob with slots:=sl}:=by
 by_cases hb:b∈fs
 ·exact u.slot b ob q n hb hx
 ·exact⟨ob.slots,u.keep b ob q n hb hx⟩
theorem Un.kept (k:∀b u,h.get? b=some u→h'.get? b=some u):Un fs ex H H h h':=
 ⟨fun b ob q _ _ _=>k b ob q,fun b ob q _ _ _=>⟨ob.slots,k b ob q⟩,fun _ _ _ n _=>n,fun b ob q _=>⟨ob,k b ob q⟩,fun _ _ q=>q,fun _ _ _ q=>q,fun _ ps q=>⟨#[],by rw[q];simp⟩⟩
theorem Un.refl:Un fs ex H H h h:=Un.kept fun _ _ q=>q
theorem Un.laid (k:∀b u,h.get? b=some u→h'.get? b=some u) (hp:h.objs.size≤a) (hn:H a=none):Un fs ex H (upd H a o) h h' where
 keep:=fun b u q _ _ _=>k b u q
 slot:=fun b u q _ _ _=>⟨u.slots,k b u q⟩
 free:=fun b u q n _=>by rw[aJ (Nat.ne_of_lt (Nat.lt_of_lt_of_le (Heap.lt_size q) hp))];exact n
 there:=fun b u q _=>⟨u,k b u q⟩
 tups:=fun b xs q=>by rw[aJ (aQ q hn)];exact q
 Fo:=fun b u xs q=>by rw[aJ (aQ q hn)];exact q
 Kw:=fun b ps q=>⟨#[],by rw[aJ (aQ q hn),q];simp⟩
theorem Un.write (mu:Mut (H x)) (he:e=x∨H e=some (.own x)) (k:∀b u,b≠e→h.get? b=some u→h'.get? b=some u) (heo:∃u,h'.get? e=some u):Un fs ex H (upd H x o) h h':=by
 have hx:∀b,H b=none→b≠x:=fun b n z=>by subst z;rw[n]at mu;exact mu
 have hb:∀b,H b=none→b≠e:=fun b n z=>by
  subst z;rcases he with r|r
  ·exact hx b n r
  ·rw[n]at r;cases r
 have hm:∀b u,H b=some u→¬Mut (some u)→b≠x:=fun b u q nm z=>by subst z;rw[q]at mu;exact nm mu
 refine⟨fun b u q n _ _=>k b u (hb b n) q,fun b u q n _ _=>⟨u.slots,k b u (hb b n) q⟩,fun b u q n _=>by rw[aJ (hx b n)];exact n,fun b u q _=>?_,
  fun b xs q=>by rw[aJ (hm b _ q fun z=>z)];exact q,fun b u xs q=>by rw[aJ (hm b _ q fun z=>z)];exact q,fun b ps q=>⟨#[],by rw[aJ (hm b _ q fun z=>z),q];simp⟩⟩
 by_cases hbe:b=e
 ·subst hbe;exact heo
 ·exact⟨u,k b u hbe q⟩
end
def trk (h:Heap) (H:Hp):List Addr:=(List.range h.objs.size).filter fun a=>(H a).isSome
def Ky (h:Heap) (H:Hp):Heap:=PySem.W.hideAll h (trk h H)
theorem adq (h:Heap) (H:Hp):(Ky h H).objs.size=h.objs.size:=PySem.W.hideAll_size _ _
theorem afo {h:Heap}{H:Hp}{b:Addr}{o:Obj}(e:h.get? b=some o) (n:H b=none):(Ky h H).get? b=some o:=
 PySem.W.hideAll_get _ e fun hm=>by
  have q:(H b).isSome=true:=(List.mem_filter.mp hm).2;rw[n]at q;simp at q
theorem agt {h:Heap}{H:Hp}{b:Addr}{o:Obj}(e:(Ky h H).get? b=some o):h.get? b=some o∧H b=none:=by
 have e':h.get? b=some o:=PySem.W.of_hideAll (trk h H) e;refine⟨e',?_⟩;cases q:H b with
 |none=>rfl
 |some x=>
  have hm:b∈trk h H:=List.mem_filter.mpr ⟨List.mem_range.mpr (Heap.lt_size e'),by simp[q]⟩;have z:(Ky h H).get? b=none:=PySem.W.hideAll_none (trk h H) hm;rw[z]at e;cases e
end L2
namespace L2
open PySem PySem.Spec PyProof.Rows
structure Mod (K:PySem.W.Frag) (mg:Str→Option Value) (base:Heap):Prop where
 kin:K.In base
 glob:base.Ns mainGlobals mg
 blt:∃mb,base.Ns builtinsNs mb∧∀x:Str,x≠"__name__"→mb x=bootBuiltins x
 nolimit:base.NoLimit
structure Cx where
 prog:Program
 w:World
 K:PySem.W.Frag
 mg:Str→Option Value
 base:Heap
 A:Around
 N:List Str
 s_0:Shared
 Nr:Hp
 env:Env
 outer:List Env
 stack:List Env
 ex:List Addr
 fn:Str→Bool
 calm:Bool
 pn:List (Addr×Obj)
 xe:Value→Shared→Prop
def frs (l:List Env):List Addr:=l.filterMap (·.frame)
abbrev Cx.fs (X:Cx):List Addr:=frs X.outer
def Vis (sc:Scope) (x:Str):Prop:=sc.names.lookup x=some .local∨sc.names.lookup x=some .cell∨sc.names.lookup x=some .free
def Loc (sc:Scope) (x:Str):Prop:=sc.names.lookup x=some .local∨sc.names.lookup x=some .cell
def Look (env:Env) (h:Heap) (m:Str→Option Value) (x:Str) (u:Value):Prop:=
 (env.kindOf x=some .local∧m x=some u)∨((env.kindOf x=some .cell∨env.kindOf x=some .free)∧∃c,env.cells.lookup x=some c∧h.IsCell c (some u))
structure Cx.Ok (X:Cx):Prop where
 mod:Mod X.K X.mg X.base
 kind:X.env.scope.kind= .function
 glob:X.env.globals=mainGlobals
 blt:X.env.builtins=builtinsNs
 above:X.s_0.heap.objs.size≤X.env.locals
 inj:∀x y c,X.env.cells.lookup x=some c→X.env.cells.lookup y=some c→x=y
 has:∀x,(X.env.kindOf x=some .cell∨X.env.kindOf x=some .free)→∃c,X.env.cells.lookup x=some c
 cab:∀x c,X.fn x=true→X.env.cells.lookup x=some c→X.s_0.heap.objs.size≤c
 hd:X.calm=true→X.A.handled=none
 frames:X.A.frames=some X.stack
 stk:X.stack=X.outer∨(X.stack=X.env::X.outer∧X.env.frame=some X.env.locals)
 exf:∀b∈X.ex,b≠X.env.locals∧∀x c,X.env.cells.lookup x=some c→c≠b
 bs:∀b o,X.base.get? b=some o→X.s_0.heap.get? b=some o∧X.Nr b=none
 Wk:X.base.objs.size≤X.s_0.heap.objs.size
 abo:∀b o,X.base.get? b=some o→b∉X.ex
 abp:∀b∈X.ex,b∉X.fs
 Ax:X.s_0.heap.FunFrames X.base X.outer
 frf:∀b∈X.fs,X.Nr b=none
structure Inv (X:Cx) (pins:List (Addr×Obj)) (σ:List (Option V)) (H:Hp) (s:Shared):Prop where
 ok:X.Ok
 os:s.os=X.s_0.os
 bare:AllBare s.gens
 base:Un X.fs X.ex X.Nr H X.s_0.heap s.heap
 loc:∃m,s.heap.Ns X.env.locals m∧∀(i:Nat) (x:Str) (v:V),X.N[i]?=some x→σ[i]?=some (some v)→Vis X.env.scope x→∃u,RelV v u∧Look X.env s.heap m x u
 cell:∀x c,X.env.cells.lookup x=some c→∃v,s.heap.IsCell c v
 free:H X.env.locals=none
 rT:∀x c,X.env.cells.lookup x=some c→H c=none
 pin:∀p∈X.pn++pins,s.heap.get? p.1=some p.2∧H p.1=none∧p.1≠X.env.locals∧p.1∉X.fs∧∀v,p.2.data≠ .cell v
 hok:nY X.prog X.w H s.heap
 len:σ.length=X.N.length
section
variable {X:Cx}{pins:List (Addr×Obj)}{σ:List (Option V)}{H H':Hp}{s:Shared}{h':Heap}
theorem Cx.Ok.aj3 (ok:X.Ok){b:Addr}{o:Obj}(e:X.base.get? b=some o):b∉X.fs:=fun hb=>by
 have:=(ok.Ax.mem hb).1;rw[e]at this;cases this
theorem Inv.bs (I:Inv X pins σ H s):∀b o,X.base.get? b=some o→s.heap.get? b=some o∧H b=none:=fun b o e=>
 ⟨I.base.keep b o (I.ok.bs b o e).1 (I.ok.bs b o e).2 (I.ok.aj3 e) (I.ok.abo b o e),I.base.free b o (I.ok.bs b o e).1 (I.ok.bs b o e).2 (I.ok.abo b o e)⟩
theorem Inv.bk (I:Inv X pins σ H s):∀b o,X.base.get? b=some o→s.heap.get? b=some o:=fun b o e=>(I.bs b o e).1
theorem Inv.mod (I:Inv X pins σ H s):Mod X.K X.mg X.base:=I.ok.mod
theorem Inv.Nt (I:Inv X pins σ H s):X.K.In s.heap:=I.ok.mod.kin.keeps I.bk
theorem Inv.lt (I:Inv X pins σ H s):X.env.locals<s.heap.objs.size:=let⟨_,hn,_⟩:=I.loc;hn.lt
theorem Inv.sz (I:Inv X pins σ H s):X.s_0.heap.objs.size≤s.heap.objs.size:=Nat.le_trans I.ok.above (Nat.le_of_lt I.lt)
theorem Inv.aj4 (I:Inv X pins σ H s){a:Addr}(h:s.heap.objs.size≤a):a∉X.fs:=fun hb=>by
 obtain⟨_,o,ho,_⟩:=I.ok.Ax.mem hb;exact absurd (Nat.lt_of_lt_of_le (Heap.lt_size ho) (Nat.le_trans I.sz h)) (Nat.lt_irrefl _)
theorem Inv.cne (I:Inv X pins σ H s):∀x c,X.env.cells.lookup x=some c→c≠X.env.locals:=fun x c e z=>by
 obtain⟨v,o,ho,hd⟩:=I.cell x c e;obtain⟨m,⟨o',es,ep,ho',hd',_⟩,_⟩:=I.loc;rw[z,ho']at ho;cases ho;rw[hd']at hd;cases hd
theorem Inv.Ax (I:Inv X pins σ H s):s.heap.FunFrames X.base X.outer:=by
 have all:∀(l:List Env),(∀b∈frs l,b∈X.fs)→X.s_0.heap.FunFrames X.base l→s.heap.FunFrames X.base l:=by
  intro l
  induction l with
  |nil=>intro _ _;trivial
  |cons env r ih=>
   intro hs hl;obtain⟨hk,⟨L,o,hf,hn,ho,hd⟩,hr⟩:=hl;have hL:L∈X.fs:=hs L (by unfold frs;rw[List.filterMap_cons,hf];exact List.mem_cons_self);obtain⟨sl,e⟩:=I.base.slot L o ho (I.ok.frf L hL) hL fun z=>I.ok.abp L z hL
   exact⟨hk,⟨L,_,hf,hn,e,hd⟩,ih (fun b hb=>hs b (by unfold frs;rw[List.filterMap_cons,hf];exact List.mem_cons_of_mem _ hb)) hr⟩
 exact all X.outer (fun _ hb=>hb) I.ok.Ax
theorem Inv.stack (I:Inv X pins σ H s):s.heap.FunFrames X.base X.stack:=by
 rcases I.ok.stk with e|⟨e,hf⟩
 ·rw[e];exact I.Ax
 ·rw[e]
  obtain⟨m,hn,_⟩:=I.loc;refine .cons (by rw[I.ok.kind];decide) hf hn ?_ I.Ax;exact Heap.get?_none_of_le (Nat.le_trans I.ok.Wk I.ok.above)
theorem Inv.Zh (I:Inv X pins σ H s):∀b∈frs X.stack,b∈X.env.locals::X.fs:=fun b hb=>by
 rcases I.ok.stk with e|⟨e,hf⟩
 ·rw[e]at hb;exact List.mem_cons_of_mem _ hb
 ·rw[e]at hb
  unfold frs at hb;rw[List.filterMap_cons,hf]at hb;exact hb
theorem Inv.abq (I:Inv X pins σ H s):∀b∈frs X.stack,H b=none:=fun b hb=>by
 rcases List.mem_cons.mp (I.Zh b hb)with e|hb
 ·rw[e];exact I.free
 ·obtain⟨_,o,ho,_⟩:=I.ok.Ax.mem hb
  exact I.base.free b o ho (I.ok.frf b hb) fun z=>I.ok.abp b z hb
theorem Inv.step {g':Array GenState}{t':Nat}{d':Drawn}{ch:List Addr}(I:Inv X pins σ H s)
  (hch:∀b∈ch,(b∈X.ex∨X.s_0.heap.objs.size≤b)∧b≠X.env.locals∧(∀x c,X.env.cells.lookup x=some c→c≠b)∧∀p∈X.pn++pins,p.1≠b)
  (keep:∀b o,b≠X.env.locals→b∉X.fs→b∉ch→s.heap.get? b=some o→H b=none→h'.get? b=some o)
  (slot:∀b o,b≠X.env.locals→b∈X.fs→b∉ch→s.heap.get? b=some o→H b=none→∃sl,h'.get? b=some {o with slots:=sl}) (free:∀b o,b∉ch→s.heap.get? b=some o→H b=none→H' b=none)
  (there:∀b o,b∉ch→s.heap.get? b=some o→∃o',h'.get? b=some o')
  (tups:∀b xs,H b=some (.tup xs)→H' b=some (.tup xs)) (Fo:∀b o u,H b=some (.cM o u)→H' b=some (.cM o u)) (Kw:∀b ps,H b=some (.tbl ps)→∃more,H' b=some (.tbl (ps++more)))
  (ns:∀m,s.heap.Ns X.env.locals m→h'.Ns X.env.locals m) (hok:nY X.prog X.w H' h') (hg:AllBare g'):
  Inv X pins σ H' {s with heap:=h',gens:=g',drawn:=d',toks:=t'}:=by
 have neL:∀b o,X.s_0.heap.get? b=some o→b≠X.env.locals:=fun b o e=>Nat.ne_of_lt (Nat.lt_of_lt_of_le (Heap.lt_size e) I.ok.above)
 have neC:∀b o,X.s_0.heap.get? b=some o→b∉X.ex→b∉ch:=fun b o e hx hb=>by
  rcases(hch b hb).1 with z|z
  ·exact hx z
  ·exact absurd (Nat.lt_of_lt_of_le (Heap.lt_size e) z) (Nat.lt_irrefl _)
 have cellK:∀x c,X.env.cells.lookup x=some c→∀v,s.heap.IsCell c v→h'.IsCell c v:=fun x c e v ⟨o,ho,hd⟩=>by
  have nch:c∉ch:=fun z=>(hch c z).2.2.1 x c e rfl
  by_cases hc:c∈X.fs
  ·obtain⟨sl,q⟩:=slot c o (I.cne x c e) hc nch ho (I.rT x c e)
   exact⟨_,q,hd⟩
  ·exact⟨o,keep c o (I.cne x c e) hc nch ho (I.rT x c e),hd⟩
 refine⟨I.ok,I.os,hg,⟨fun b o e n hb hx=>?_,fun b o e n hb hx=>?_,fun b o e n hx=>?_,fun b o e hx=>?_,fun b xs e=>tups b xs (I.base.tups b xs e),fun b o xs e=>Fo b o xs (I.base.Fo b o xs e),fun b ps e=>?_⟩,?_,fun x c e=>?_,?_,fun x c e=>?_,fun p hp=>?_,hok,I.len⟩
 ·exact keep b o (neL b o e) hb (neC b o e hx) (I.base.keep b o e n hb hx) (I.base.free b o e n hx)
 ·obtain⟨sl,e1⟩:=I.base.slot b o e n hb hx
  obtain⟨sl',e2⟩:=slot b _ (neL b o e) hb (neC b o e hx) e1 (I.base.free b o e n hx);exact⟨sl',e2⟩
 ·obtain⟨o',e1⟩:=I.base.there b o e hx
  exact free b o' (neC b o e hx) e1 (I.base.free b o e n hx)
 ·obtain⟨o',e1⟩:=I.base.there b o e hx
  exact there b o' (neC b o e hx) e1
 ·obtain⟨m1,e1⟩:=I.base.Kw b ps e
  obtain⟨m2,e2⟩:=Kw b _ e1;exact⟨m1++m2,by rw[e2,Array.append_assoc]⟩
 ·obtain⟨m,hn,hl⟩:=I.loc
  refine⟨m,ns m hn,fun i x v e1 e2 e3=>?_⟩;obtain⟨u,r,l⟩:=hl i x v e1 e2 e3;refine⟨u,r,?_⟩;rcases l with l|⟨k,c,e,z⟩
  ·exact .inl l
  ·exact .inr ⟨k,c,e,cellK x c e _ z⟩
 ·obtain⟨v,z⟩:=I.cell x c e
  exact⟨v,cellK x c e v z⟩
 ·obtain⟨m,⟨o,_,_,ho,_⟩,_⟩:=I.loc
  exact free _ o (fun z=>(hch _ z).2.1 rfl) ho I.free
 ·obtain⟨v,o,ho,hd⟩:=I.cell x c e
  exact free c o (fun z=>(hch c z).2.2.1 x c e rfl) ho (I.rT x c e)
 ·obtain⟨e,n,ne,nf,d⟩:=I.pin p hp
  have nch:p.1∉ch:=fun z=>(hch p.1 z).2.2.2 p hp rfl
  exact⟨keep p.1 p.2 ne nf nch e n,free p.1 p.2 nch e n,ne,nf,d⟩
theorem Inv.un {t':Nat}(I:Inv X pins σ H s) (u:Un X.fs [] H H' s.heap h') (hok:nY X.prog X.w H' h'):Inv X pins σ H' {s with heap:=h',toks:=t'}:=by
 obtain⟨m,⟨o,es,ep,ho,r⟩,_⟩:=id I.loc;obtain⟨sl,hL⟩:=u.any ho I.free (by simp);exact I.step (g':=s.gens) (d':=s.drawn) (ch:=[]) (fun _ z=>nomatch z) (fun b o _ hb _ e n=>u.keep b o e n hb (by simp)) (fun b o _ hb _ e n=>u.slot b o e n hb (by simp)) (fun b o _ e n=>u.free b o e n (by simp)) (fun b o _ e=>u.there b o e (by simp)) u.tups u.Fo u.Kw (fun m' hm=>by
  obtain⟨o',es',ep',ho',r'⟩:=hm;rw[ho]at ho';cases ho'
  exact⟨_,es',ep',hL,r'⟩) hok I.bare
theorem Inv.call {g':Array GenState}{t':Nat}{d':Drawn}{ch:List Addr}(I:Inv X pins σ H s) (u:Un (frs X.stack) ch H H' s.heap h') (hok:nY X.prog X.w H' h') (hg:AllBare g')
  (hch:∀b∈ch,(b∈X.ex∨X.s_0.heap.objs.size≤b)∧b≠X.env.locals∧(∀x c,X.env.cells.lookup x=some c→c≠b)∧∀p∈X.pn++pins,p.1≠b):
  Inv X pins σ H' {s with heap:=h',gens:=g',drawn:=d',toks:=t'}:=by
 obtain⟨m,⟨o,es,ep,ho,r⟩,_⟩:=id I.loc;obtain⟨sl,hL⟩:=u.any ho I.free fun z=>(hch _ z).2.1 rfl
 exact I.step (ch:=ch) hch (fun b o hL hb hc e n=>u.keep b o e n (fun z=>(List.mem_cons.mp (I.Zh b z)).elim hL hb) hc) (fun b o _ _ hc e n=>u.any e n hc) (fun b o hc e n=>u.free b o e n hc) (fun b o hc e=>u.there b o e hc) u.tups u.Fo u.Kw (fun m' hm=>by
  obtain⟨o',es',ep',ho',r'⟩:=hm;rw[ho]at ho';cases ho'
  exact⟨_,es',ep',hL,r'⟩) hok hg
theorem Inv.turned {t':Nat}{it:Addr}(I:Inv X pins σ H s) (k:∀b o,b≠it→s.heap.get? b=some o→h'.get? b=some o) (hn:H it=none) (hL:it≠X.env.locals)
  (h1:it∈X.ex∨X.s_0.heap.objs.size≤it) (h2:∀x c,X.env.cells.lookup x=some c→c≠it) (h3:∀p∈X.pn++pins,p.1≠it):Inv X pins σ H {s with heap:=h',toks:=t'}:=by
 have nit:∀b u,H b=some u→b≠it:=fun b u e z=>by rw[z,hn]at e;cases e
 refine I.step (g':=s.gens) (d':=s.drawn) (ch:=[it]) (fun b hb=>?_) (fun b o _ _ hc e _=>k b o (fun z=>hc (by simp[z])) e) (fun b o _ _ hc e _=>⟨o.slots,k b o (fun z=>hc (by simp[z])) e⟩) (fun _ _ _ _ n=>n)
  (fun b o hc e=>⟨o,k b o (fun z=>hc (by simp[z])) e⟩) (fun _ _ e=>e) (fun _ _ _ e=>e) (fun b ps e=>⟨#[],by rw[e];simp⟩) (fun m hm=>?_) (fun b u e=>?_) I.bare
 ·have e:b=it:=by simpa using hb
  subst e;exact⟨h1,hL,h2,h3⟩
 ·obtain⟨o,es,ep,ho,r⟩:=hm
  exact⟨o,es,ep,k _ o (Ne.symm hL) ho,r⟩
 ·refine(I.hok b u e).stay (fun c v hc q=>k c v ?_ q) (fun _ q=>q) fun _ _ q=>q
  rcases hc with z|z
  ·rw[z];exact nit b u e
  ·exact nit c _ z
theorem Inv.tok (I:Inv X pins σ H s) (t:Nat):Inv X pins σ H {s with toks:=t}:=I.un (h':=s.heap) (t':=t) Un.refl I.hok
theorem Inv.kept {t':Nat}(I:Inv X pins σ H s) (k:∀b u,s.heap.get? b=some u→h'.get? b=some u):Inv X pins σ H {s with heap:=h',toks:=t'}:=I.un (Un.kept k) (I.hok.kept k)
theorem Inv.laid {a:Addr}{o:HO}{t':Nat}(I:Inv X pins σ H s) (k:∀b u,s.heap.get? b=some u→h'.get? b=some u) (hp:s.heap.objs.size≤a) (new:fD X.prog X.w (upd H a o) h' a o):
  Inv X pins σ (upd H a o) {s with heap:=h',toks:=t'}:=I.un (Un.laid k hp (I.hok.fresh hp)) (I.hok.laid k hp new)
theorem Inv.write {x e:Addr}{o:HO}{t':Nat}(I:Inv X pins σ H s) (mu:Mut (H x)) (he:e=x∨H e=some (.own x)) (k:∀b u,b≠e→s.heap.get? b=some u→h'.get? b=some u) (heo:∃u,h'.get? e=some u)
  (new:fD X.prog X.w (upd H x o) h' x o):Inv X pins σ (upd H x o) {s with heap:=h',toks:=t'}:=I.un (Un.write mu he k heo) (I.hok.write mu he k heo new)
theorem Inv.weak {σ':List (Option V)}(I:Inv X pins σ H s) (hl:σ'.length=σ.length) (w:∀(i:Nat) v,σ'[i]?=some (some v)→σ[i]?=some (some v)):Inv X pins σ' H s:=
 ⟨I.ok,I.os,I.bare,I.base,let⟨m,hn,hl'⟩:=I.loc;⟨m,hn,fun i x v e1 e2 e3=>hl' i x v e1 (w i v e2) e3⟩,I.cell,I.free,I.rT,I.pin,I.hok,hl.trans I.len⟩
theorem Inv.abr {agu:List (Addr×Obj)}(I:Inv X pins σ H s) (h:∀p∈agu,s.heap.get? p.1=some p.2∧H p.1=none∧p.1≠X.env.locals∧p.1∉X.fs∧∀v,p.2.data≠ .cell v):Inv X agu σ H s:=
 ⟨I.ok,I.os,I.bare,I.base,I.loc,I.cell,I.free,I.rT,fun p hp=>(List.mem_append.mp hp).elim (fun z=>I.pin p (List.mem_append_left _ z)) (h p),I.hok,I.len⟩
theorem Nu {N:List Str}(hN:N.Nodup){i j:Nat}{x:Str}(a:N[i]?=some x) (b:N[j]?=some x):i=j:=by
 obtain⟨h1,e1⟩:=List.getElem?_eq_some_iff.mp a;obtain⟨h2,e2⟩:=List.getElem?_eq_some_iff.mp b;exact(List.getElem_inj hN).mp (e1.trans e2.symm)
theorem Sq {M:Model}{A:Around}{E:Value→Shared→Prop}{i:Nat}{x:Str}{v:V}{u:Value}{Q:Unit→Shared→Prop}(I:Inv X pins σ H s) (hN:X.N.Nodup) (hi:X.N[i]?=some x) (hx:Loc X.env.scope x) (r:RelV v u)
  (h:∀s',Inv X pins (σ.set i (some v)) H s'→(∃a,Heap.SameBut a s.heap s'.heap∧(a=X.env.locals∨X.env.cells.lookup x=some a))→Q () s') (hf:X.fn x=true∨X.env.scope.names.lookup x=some .local:=by first|exact .inl rfl|exact .inr rfl|assumption):wpAny M A (storeName X.env x u) Q E s:=by
 obtain⟨m,hn,hl⟩:=id I.loc;have hcls:(X.env.scope.kind== .class||(X.env.scope.kind== .module&&X.env.locals !=X.env.globals))=false:=by rw[I.ok.kind];rfl
 have hiσ:i<σ.length:=by rw[I.len];exact(List.getElem?_eq_some_iff.mp hi).1
 have cne:=I.cne;have tracked:∀{a:Addr}{h':Heap},(∃o,s.heap.get? a=some o∧H a=none)→Heap.SameBut a s.heap h'→nY X.prog X.w H h':=fun{a h'} ha hs b ob e=>by
  obtain⟨_,_,hfree⟩:=ha;refine(I.hok b ob e).stay (fun c w' hc q=>(hs.2 c ?_).trans q) (fun _ q=>q) fun _ _ q=>q
  rintro rfl;rcases hc with rfl|hc
  ·rw[hfree]at e;cases e
  ·rw[hfree]at hc;cases hc
 rcases hx with hk|hk
 ·refine wpAny_storeName_local hk hn (fun h' hn' hs=>?_) hcls
  obtain⟨oL,_,_,hoL,_⟩:=id hn;refine h _ ⟨I.ok,I.os,I.bare,⟨fun b o e n hb hx=>?_,fun b o e n hb hx=>?_,I.base.free,fun b o e hx=>?_,I.base.tups,I.base.Fo,I.base.Kw⟩,⟨_,hn',fun j y v' e1 e2 e3=>?_⟩,fun y c e=>?_,I.free,I.rT,fun p hp=>?_,tracked ⟨oL,hoL,I.free⟩ hs,by simpa using I.len⟩ ⟨_,hs, .inl rfl⟩
  ·exact(hs.2 b (Nat.ne_of_lt (Nat.lt_of_lt_of_le (Heap.lt_size e) I.ok.above))).trans (I.base.keep b o e n hb hx)
  ·obtain⟨sl,e1⟩:=I.base.slot b o e n hb hx
   exact⟨sl,(hs.2 b (Nat.ne_of_lt (Nat.lt_of_lt_of_le (Heap.lt_size e) I.ok.above))).trans e1⟩
  ·obtain⟨o',e1⟩:=I.base.there b o e hx
   exact⟨o',(hs.2 b (Nat.ne_of_lt (Nat.lt_of_lt_of_le (Heap.lt_size e) I.ok.above))).trans e1⟩
  ·by_cases hj:j=i
   ·subst hj
    rw[hi]at e1;cases e1
    rw[List.getElem?_set_self hiσ]at e2;cases e2;exact⟨u,r, .inl ⟨hk,by simp⟩⟩
   ·rw[List.getElem?_set_ne (Ne.symm hj)]at e2
    obtain⟨u',r',q⟩:=hl j y v' e1 e2 e3;refine⟨u',r',?_⟩;rcases q with⟨k,e⟩|⟨k,c,e,z⟩
    ·refine .inl ⟨k,?_⟩
     have:y≠x:=fun e=>hj (Nu hN e1 (e▸hi))
     simp[this,e]
    ·exact .inr ⟨k,c,e,z.sameBut hs (cne y c e)⟩
  ·obtain⟨w',z⟩:=I.cell y c e
   exact⟨w',z.sameBut hs (cne y c e)⟩
  ·obtain⟨e,n,ne,nf,d⟩:=I.pin p hp
   exact⟨(hs.2 p.1 ne).trans e,n,ne,nf,d⟩
 ·have hfn:X.fn x=true:=by
   rcases hf with z|z
   ·exact z
   ·rw[z]at hk;cases hk
  obtain⟨c,hc⟩:=I.ok.has x (.inl hk);obtain⟨w',z⟩:=I.cell x c hc;refine wpAny_storeName_cell I.ok.kind hk hc z (fun h' hc' hs=>?_);obtain⟨oc,hoc,aj5⟩:=id z;refine h {s with heap:=h'} ⟨I.ok,I.os,I.bare,⟨fun b o e n hb hx=>?_,fun b o e n hb hx=>?_,I.base.free,fun b o e hx=>?_,I.base.tups,I.base.Fo,I.base.Kw⟩,⟨m,hn.sameBut hs (Ne.symm (cne x c hc)),fun j y v' e1 e2 e3=>?_⟩,fun y c' e=>?_,I.free,I.rT,fun p hp=>?_,tracked ⟨oc,hoc,I.rT x c hc⟩ hs,by simpa using I.len⟩ ⟨c,hs, .inr hc⟩
  ·exact(hs.2 b (Nat.ne_of_lt (Nat.lt_of_lt_of_le (Heap.lt_size e) (I.ok.cab x c hfn hc)))).trans (I.base.keep b o e n hb hx)
  ·obtain⟨sl,e1⟩:=I.base.slot b o e n hb hx
   exact⟨sl,(hs.2 b (Nat.ne_of_lt (Nat.lt_of_lt_of_le (Heap.lt_size e) (I.ok.cab x c hfn hc)))).trans e1⟩
  ·obtain⟨o',e1⟩:=I.base.there b o e hx
   exact⟨o',(hs.2 b (Nat.ne_of_lt (Nat.lt_of_lt_of_le (Heap.lt_size e) (I.ok.cab x c hfn hc)))).trans e1⟩
  ·by_cases hj:j=i
   ·subst hj
    rw[hi]at e1;cases e1
    rw[List.getElem?_set_self hiσ]at e2;cases e2;exact⟨u,r, .inr ⟨.inl hk,c,hc,hc'⟩⟩
   ·rw[List.getElem?_set_ne (Ne.symm hj)]at e2
    obtain⟨u',r',q⟩:=hl j y v' e1 e2 e3;refine⟨u',r',?_⟩;rcases q with q|⟨k,c',e,z'⟩
    ·exact .inl q
    ·refine .inr ⟨k,c',e,z'.sameBut hs ?_⟩
     rintro rfl;exact hj (Nu hN e1 (I.ok.inj _ _ _ e hc▸hi))
  ·by_cases hcc:c'=c
   ·subst hcc;exact⟨_,hc'⟩
   ·obtain⟨w2,z2⟩:=I.cell y c' e
    exact⟨w2,z2.sameBut hs hcc⟩
  ·obtain⟨e,n,ne,nf,d⟩:=I.pin p hp
   refine⟨(hs.2 p.1 ?_).trans e,n,ne,nf,d⟩;intro q;rw[q,hoc]at e;have q':oc=p.2:=Option.some.inj e;exact d w' (by rw[←q'];exact aj5)
theorem Nv {M:Model}{A:Around}{E:Value→Shared→Prop}{i:Nat}{x:Str}{v:V}{u:Value}{Q:Unit→Shared→Prop}(I:Inv X pins σ H s) (hN:X.N.Nodup) (hi:X.N[i]?=some x) (hx:Loc X.env.scope x) (r:RelV v u)
  (h:∀s',Inv X pins (σ.set i (some v)) H s'→Q () s') (hf:X.fn x=true∨X.env.scope.names.lookup x=some .local:=by first|exact .inl rfl|exact .inr rfl|assumption):wpAny M A (storeName X.env x u) Q E s:=
 Sq I hN hi hx r (fun s' I' _=>h s' I') hf
theorem Inv.call' {s':Shared}{ch:List Addr}(I:Inv X pins σ H s) (ho:s'.os=s.os) (u:Un (frs X.stack) ch H H' s.heap s'.heap) (hok:nY X.prog X.w H' s'.heap) (hg:AllBare s'.gens)
  (hch:∀b∈ch,(b∈X.ex∨X.s_0.heap.objs.size≤b)∧b≠X.env.locals∧(∀x c,X.env.cells.lookup x=some c→c≠b)∧∀p∈X.pn++pins,p.1≠b):Inv X pins σ H' s':=by
 obtain⟨h',g',d',t',o'⟩:=s';have e:o'=s.os:=ho;subst e;exact I.call (g':=g') (t':=t') (d':=d') u hok hg hch
end
abbrev XK:=Value→Option Addr→Hp→Prop
abbrev St:=List (Option V)
abbrev VK:=V→Hp→Prop
abbrev TE:=St→Hp→VK→Prop
abbrev TT:=St→Hp→(Bool→Hp→Prop)→Prop
abbrev TA:=St→Hp→(List V→Hp→Prop)→Prop
structure Ends where
 nx:St→Hp→Prop
 rt:VK
 bk:St→Hp→Prop:=fun _ _=>False
 ct:St→Hp→Prop:=fun _ _=>False
abbrev TS:=Ends→St→Hp→Prop
def EP (X:Cx) (pins:List (Addr×Obj)) (σ:St) (Q:VK) (u:Value) (s':Shared):Prop:=∃v H',Inv X pins σ H' s'∧RelV v u∧Q v H'
def TP (X:Cx) (pins:List (Addr×Obj)) (σ:St) (Q:Bool→Hp→Prop) (b:Bool) (s':Shared):Prop:=∃H',Inv X pins σ H' s'∧Q b H'
def AP (X:Cx) (pins:List (Addr×Obj)) (σ:St) (Q:List V→Hp→Prop) (us:List Value) (s':Shared):Prop:=∃vs H',Inv X pins σ H' s'∧Vals vs us∧Q vs H'
def SP (X:Cx) (pins:List (Addr×Obj)) (D:Ends) (f:Flow) (s':Shared):Prop:=
 match f with
 | .next=>∃σ' H',Inv X pins σ' H' s'∧D.nx σ' H'
 | .brk=>∃σ' H',Inv X pins σ' H' s'∧D.bk σ' H'
 | .cont=>∃σ' H',Inv X pins σ' H' s'∧D.ct σ' H'
 | .ret u=>∃v σ' H',Inv X pins σ' H' s'∧RelV v u∧D.rt v H'
def PE (X:Cx) (e:Expr) (t:TE):Prop:=
 ∀(pins:List (Addr×Obj)) (s:Shared) (σ:St) (H:Hp) (Q:VK),Inv X pins σ H s→t σ H Q→wpAny (model X.prog X.w) X.A (eval e X.env) (EP X pins σ Q) X.xe s
def PT (X:Cx) (e:Expr) (t:TT):Prop:=
 ∀(pins:List (Addr×Obj)) (s:Shared) (σ:St) (H:Hp) (Q:Bool→Hp→Prop),Inv X pins σ H s→t σ H Q→wpAny (model X.prog X.w) X.A (isTrue e X.env (eval e X.env)) (TP X pins σ Q) X.xe s
def PW (X:Cx) (e:Expr) (t:TT):Prop:=
 ∀(whole:Sem Value) (pins:List (Addr×Obj)) (s:Shared) (σ:St) (H:Hp) (Q:Bool→Hp→Prop),Inv X pins σ H s→t σ H Q→wpAny (model X.prog X.w) X.A (isTrue e X.env whole) (TP X pins σ Q) X.xe s
theorem PW.pt {X:Cx}{e:Expr}{t:TT}(h:PW X e t):PT X e t:=h _
def PA (X:Cx) (es:List Expr) (t:TA):Prop:=
 ∀(pos:Pos) (pins:List (Addr×Obj)) (s:Shared) (σ:St) (H:Hp) (Q:List V→Hp→Prop),Inv X pins σ H s→t σ H Q→wpAny (model X.prog X.w) X.A (spliced (backTo pos (starEach es X.env))) (AP X pins σ Q) X.xe s
def PS (X:Cx) (st:Stmt) (t:TS):Prop:=
 ∀(pins:List (Addr×Obj)) (s:Shared) (σ:St) (H:Hp) (D:Ends),Inv X pins σ H s→t D σ H→wpAny (model X.prog X.w) X.A (exec st X.env) (SP X pins D) X.xe s
def Ny (X:Cx) (st:List Stmt) (t:TS):Prop:=
 ∀(pins:List (Addr×Obj)) (s:Shared) (σ:St) (H:Hp) (D:Ends),Inv X pins σ H s→t D σ H→wpAny (model X.prog X.w) X.A (execs st X.env) (SP X pins D) X.xe s
theorem cN {α:Type}{t:Sem α}{Q Q':α→Shared→Prop}{M:Model}{A:Around}{E:Value→Shared→Prop}{s:Shared}(h:wpAny M A t Q E s) (hQ:∀a s,Q a s→Q' a s):wpAny M A t Q' E s:=wpAny_mono h hQ fun _ _ x=>x
end L2
namespace L2
open PySem PySem.Spec PyProof.Rows
section
variable {X:Cx}
def Er (i:Nat):TE:=fun σ H Q=>∃v,σ[i]?=some (some v)∧Q v H
def tC (v:V):TE:=fun _ H Q=>Q v H
theorem aib {i:Nat}{x:Str}{pos:Pos}(hN:X.N[i]?=some x) (hv:Vis X.env.scope x) (hd:(x==("__debug__":Str))=false:=by decide) (hcd:(x==("__classdict__":Str))=false:=by decide):PE X (.Name x pos) (Er i):=by
 intro pins s σ H Q I h;obtain⟨v,e,h⟩:=h;obtain⟨m,hn,hl⟩:=I.loc;obtain⟨u,r,l⟩:=hl i x v hN e hv;have fin:EP X pins σ Q u s:=⟨v,H,I,r,h⟩;rcases l with⟨hk,hm⟩|⟨hk,c,hc,hcell⟩
 ·exact wpAny_Name (wpAny_loadName_local I.ok.kind hk hn hm fin) hd
 ·rcases hk with hk|hk
  ·exact wpAny_Name (wpAny_loadName_cell I.ok.kind hk hc hcell fin) hd
  ·exact wpAny_Name (wpAny_loadName_free I.ok.kind hk hc hcell fin hcd) hd
theorem aO {i j pos}:PE X (.Constant (.int i) j pos) (tC (.int i)):=fun _ _ _ H _ I h=>wpAny_Constant_int ⟨.int i,H,I.tok _,⟨_,rfl⟩,h⟩
theorem Jq {b j pos}:PE X (.Constant (.bool b) j pos) (tC (.bl b)):=fun _ _ _ H _ I h=>Constant_bool ⟨.bl b,H,I,rfl,h⟩
theorem BW {j pos}:PE X (.Constant .none j pos) (tC .non):=fun _ _ _ H _ I h=>Constant_none ⟨.non,H,I,rfl,h⟩
def Gl (X:Cx) (x:Str):Prop:=X.env.kindOf x=some .globalImplicit
theorem Fp {E:Value→Shared→Prop}{pins:List (Addr×Obj)}{s:Shared}{σ:St}{H:Hp}{x:Str}{u:Value}{pos:Pos}{Q:Value→Shared→Prop}(I:Inv X pins σ H s) (hg:Gl X x) (hm:X.mg x=some u) (h:Q u s)
  (hd:(x==("__debug__":Str))=false:=by decide):wpAny (model X.prog X.w) X.A (eval (.Name x pos) X.env) Q E s:=
 Calls.Name_function_global I.ok.kind hg (Calls.loadGlobal_global (by rw[I.ok.glob];exact I.mod.glob.keeps I.bk) hm h) hd
theorem Hq {E:Value→Shared→Prop}{pins:List (Addr×Obj)}{s:Shared}{σ:St}{H:Hp}{x:Str}{u:Value}{pos:Pos}{Q:Value→Shared→Prop}(I:Inv X pins σ H s) (hg:Gl X x) (hm:X.mg x=none) (hv:bootBuiltins x=some u) (h:Q u s)
  (hn:x≠"__name__":=by decide) (hd:(x==("__debug__":Str))=false:=by decide):wpAny (model X.prog X.w) X.A (eval (.Name x pos) X.env) Q E s:=by
 obtain⟨mb,h1,h2⟩:=I.mod.blt;exact Calls.Name_function_global I.ok.kind hg (Calls.loadGlobal_builtin (by rw[I.ok.glob];exact I.mod.glob.keeps I.bk) hm (by rw[I.ok.blt];exact h1.keeps I.bk) ((h2 x hn).trans hv) h) hd
theorem aY {x:Str}{v:V}{u:Value}{pos:Pos}(hg:Gl X x) (hm:X.mg x=some u) (r:RelV v u) (hd:(x==("__debug__":Str))=false:=by decide):PE X (.Name x pos) (tC v):=
 fun _ _ _ H _ I h=>Fp I hg hm ⟨v,H,I,r,h⟩ hd
variable {a b:Expr}{ta tb:TE}{pos:Pos}
def PC (X:Cx) (op:CmpOp) (a b:Expr) (t:TE):Prop:=
 ∀(pins:List (Addr×Obj)) (s:Shared) (σ:St) (H:Hp) (Q:VK),Inv X pins σ H s→t σ H Q→
  wpAny (model X.prog X.w) X.A (eval a X.env) (fun v s₁=>wpAny (model X.prog X.w) X.A (eval b X.env) (fun u s₂=>wpAny (model X.prog X.w) X.A (compareOp op v u) (EP X pins σ Q) X.xe s₂) X.xe s₁) X.xe s
def tB (t:TE):TT:=fun σ H Q=>t σ H fun x H1=>∃c,x= .bl c∧Q c H1
theorem aic {op:CmpOp}{t:TE}(h:PC X op a b t) (h1:behindInMarks op b=false:=by first|exact afp _ (by decide) (by decide)|rfl):PE X (.Compare a [op] [b] pos) t:=fun pins s σ H Q I hw=>wpAny_Compare1 (h pins s σ H Q I hw) h1
theorem Kz {op:CmpOp}{t:TE}(h:PC X op a b t) (h1:behindInMarks op b=false:=by first|exact afp _ (by decide) (by decide)|rfl):PT X (.Compare a [op] [b] pos) (tB t):=by
 intro pins s σ H Q I hw;refine wpAny_isTrue_Compare1 (cN (h pins s σ H _ I hw) fun v s1 h1=>cN h1 fun u s2 h2=>cN h2 fun c s3 ⟨x,H1,I1,r1,q1⟩=>?_) h1;obtain⟨d,rfl,q⟩:=q1;cases r1;exact wpAny_truthy_bool ⟨H1,I1,q⟩
theorem dj {e:Expr}{t:TE}(h:PE X e t) (he:∀whole,isTrue e X.env whole=(do let v←whole;standAt e.pos;holding [v] (truthy v)):=by intro _;rfl):PT X e (tB t):=by
 intro pins s σ H Q I hw;refine isTrue_plain (cN (h pins s σ H _ I hw) fun v s1 ⟨x,H1,I1,r1,q1⟩=>?_) (he _);obtain⟨d,rfl,q⟩:=q1;cases r1;exact wpAny_truthy_bool ⟨H1,I1,q⟩
variable {tA Ss:TT}{rest:List Expr}
def aeN (t u:TT):TT:=fun σ H Q=>t σ H fun c H1=>if c=true then u σ H1 Q else Q false H1
def tOr (t u:TT):TT:=fun σ H Q=>t σ H fun c H1=>if c=true then Q true H1 else u σ H1 Q
def agv (t:TT):TT:=fun σ H Q=>t σ H fun c H1=>Q (!c) H1
theorem Ay (ha:PT X a tA):PW X (.BoolOp .And [a] pos) tA:=by
 intro wh pins s σ H Q I h;refine isTrue_and (cN (ha pins s σ H Q I h) fun c s1 e=>?_);cases c with
 |true=>exact isTrue_and_nil e
 |false=>exact e
theorem Hr (ha:PT X a tA):PW X (.BoolOp .Or [a] pos) tA:=by
 intro wh pins s σ H Q I h;refine isTrue_or (cN (ha pins s σ H Q I h) fun c s1 e=>?_);cases c with
 |false=>exact isTrue_or_nil e
 |true=>exact e
theorem Ht (ha:PT X a tA) (hb:PW X (.BoolOp .And (b::rest) pos) Ss):PW X (.BoolOp .And (a::b::rest) pos) (aeN tA Ss):=by
 intro wh pins s σ H Q I h;refine isTrue_and (cN (ha pins s σ H _ I h) fun c s1 ⟨H1,I1,q1⟩=>?_);cases c with
 |true=>exact hb wh pins s1 σ H1 Q I1 q1
 |false=>exact⟨H1,I1,q1⟩
theorem Jr (ha:PT X a tA) (hb:PW X (.BoolOp .Or (b::rest) pos) Ss):PW X (.BoolOp .Or (a::b::rest) pos) (tOr tA Ss):=by
 intro wh pins s σ H Q I h;refine isTrue_or (cN (ha pins s σ H _ I h) fun c s1 ⟨H1,I1,q1⟩=>?_);cases c with
 |true=>exact⟨H1,I1,q1⟩
 |false=>exact hb wh pins s1 σ H1 Q I1 q1
theorem gq (ha:PT X a tA):PT X (.UnaryOp .Not a pos) (agv tA):=by
 intro pins s σ H Q I h;exact isTrue_not (ha pins s σ H (fun c H1=>Q (!c) H1) I h)
def adt (ta tb:TE):TE:=fun σ H Q=>ta σ H fun x H1=>∃c,x= .bl c∧if c=true then tb σ H1 Q else Q (.bl false) H1
def ajg (ta tb:TE):TE:=fun σ H Q=>ta σ H fun x H1=>∃c,x= .bl c∧if c=true then Q (.bl true) H1 else tb σ H1 Q
def agw (ta:TE):TE:=fun σ H Q=>ta σ H fun x H1=>∃c,x= .bl c∧Q (.bl (!c)) H1
theorem uV {op}{t:TE}(h:PE X a t):PE X (.BoolOp op [a] pos) t:=fun pins s σ H Q I hw=>BoolOp_one (h pins s σ H Q I hw)
theorem o8 (ha:PE X a ta) (hb:PE X (.BoolOp .And (b::rest) pos) tb):PE X (.BoolOp .And (a::b::rest) pos) (adt ta tb):=by
 intro pins s σ H Q I h;refine BoolOp_and (cN (ha pins s σ H _ I h) fun v s1 ⟨x,H1,I1,r1,q1⟩=>?_);obtain⟨c,rfl,q1⟩:=q1;cases r1;refine wpAny_truthy_bool ?_;cases c with
 |true=>exact hb pins s1 σ H1 Q I1 q1
 |false=>exact⟨.bl false,H1,I1,rfl,q1⟩
theorem adu (ha:PE X a ta) (hb:PE X (.BoolOp .Or (b::rest) pos) tb):PE X (.BoolOp .Or (a::b::rest) pos) (ajg ta tb):=by
 intro pins s σ H Q I h;refine BoolOp_or (cN (ha pins s σ H _ I h) fun v s1 ⟨x,H1,I1,r1,q1⟩=>?_);obtain⟨c,rfl,q1⟩:=q1;cases r1;refine wpAny_truthy_bool ?_;cases c with
 |false=>exact hb pins s1 σ H1 Q I1 q1
 |true=>exact⟨.bl true,H1,I1,rfl,q1⟩
theorem aie (ha:PE X a ta):PE X (.UnaryOp .Not a pos) (agw ta):=by
 intro pins s σ H Q I h;refine UnaryOp_ (cN (ha pins s σ H _ I h) fun v s1 ⟨x,H1,I1,r1,q1⟩=>?_);obtain⟨c,rfl,q1⟩:=q1;cases r1;exact not_of (wpAny_truthy_bool ⟨.bl (!c),H1,I1,rfl,q1⟩)
end
end L2
namespace L2
open PySem PySem.Spec PyProof.Rows
def dR (K:PySem.W.Frag) (H:Hp) (a:Addr) (xs:List V):Prop:=
 Rd H a (.lst xs)∨
  ∃(o:Obj) (its:Array Value) (n:Nat),K.lookup a=some o∧o.cls= .type "list"∧o.dict=none∧o.data= .seq its n∧its.size≤sizeLine∧Vals xs its.toList
def Sv (K:PySem.W.Frag) (H:Hp) (a:Addr) (xs:List V):Prop:=
 Rd H a (.tup xs)∨
  ∃(o:Obj) (its:Array Value) (n:Nat),K.lookup a=some o∧o.cls= .type "tuple"∧o.data= .seq its n∧its.size≤sizeLine∧Vals xs its.toList
def aj6:Value→Option V
 | .none=>some .non
 | .bool b=>some (.bl b)
 | .int i _=>some (.int i)
 | .str x _=>some (.str x)
 | .bytes b _=>some (.Fe b)
 | .float b _=>some (.flt b)
 | .ref a=>some (.ref a)
 | .type n=>some (.ty n)
 |_=>none
theorem RelV.abs {x:V}{u:Value}(r:RelV x u):aj6 u=some x:=by
 cases x with
 |non=>cases r;rfl
 |bl _=>cases r;rfl
 |int _=>obtain⟨t,rfl⟩:=r;rfl
 |str _=>obtain⟨t,rfl⟩:=r;rfl
 |Fe _=>obtain⟨t,rfl⟩:=r;rfl
 |flt _=>obtain⟨t,rfl⟩:=r;rfl
 |ref _=>cases r;rfl
 |ty _=>cases r;rfl
theorem RelV.inj {x y:V}{u:Value}(r:RelV x u) (q:RelV y u):x=y:=Option.some.inj (r.abs.symm.trans q.abs)
theorem Vals.inj:∀{xs ys:List V}{us:List Value},Vals xs us→Vals ys us→xs=ys
 |_,_,_, .nil, .nil=>rfl
 |_,_,_, .cons r t, .cons r' t'=>by rw[r.inj r',Vals.inj t t']
section
variable {X:Cx}{pins:List (Addr×Obj)}{σ:St}{H:Hp}{s:Shared}{a:Addr}{xs ys:List V}
theorem dR.of {K:PySem.W.Frag}(h:H a=some (.lst xs)):dR K H a xs:= .inl (.inl h)
theorem Inv.list (I:Inv X pins σ H s) (h:dR X.K H a xs):∃its:List Value,Vals xs its∧PlainL s.heap a its.toArray∧xs.length≤sizeLine:=by
 rcases h with h|⟨o,its,n,hk,hc,hd,hs,hz,r⟩
 ·obtain⟨z,its,n,r,e⟩:=h.ok I.hok
  exact⟨its,r,⟨_,n,e,rfl,rfl,rfl⟩,z⟩
 ·refine⟨its.toList,r,⟨o,n,I.Nt a o hk,hc,hd,by simpa using hs⟩,?_⟩
  have e:=r.length;simp only[Array.length_toList]at e;omega
theorem Inv.tuple (I:Inv X pins σ H s) (h:Sv X.K H a xs):∃its:List Value,Vals xs its∧IsTup s.heap a its.toArray∧xs.length≤sizeLine:=by
 rcases h with h|⟨o,its,n,hk,hc,hs,hz,r⟩
 ·obtain⟨z,its,r,p⟩:=h.ok I.hok
  exact⟨its,r,p,z⟩
 ·refine⟨its.toList,r,⟨o,I.Nt a o hk,hc,n,by simpa using hs⟩,?_⟩
  have e:=r.length;simp only[Array.length_toList]at e;omega
theorem Inv.Hu (I:Inv X pins σ H s) (h:dR X.K H a xs) (h':dR X.K H a ys):xs=ys:=by
 obtain⟨its,r,⟨o,n,e,_,_,d⟩,_⟩:=I.list h;obtain⟨its',r',⟨o',n',e',_,_,d'⟩,_⟩:=I.list h';rw[e]at e';cases e'
 rw[d]at d';injection d' with d1 _
 have:its=its':=by simpa using congrArg Array.toList d1
 subst this;exact r.inj r'
end
abbrev Cx.wish (X:Cx) (E:Value→Shared→Prop):Cx:={X with xe:=E}
abbrev Cx.nox (X:Cx):Cx:=X.wish fun _ _=>False
theorem Cx.Ok.wish {X:Cx}(ok:X.Ok) (E:Value→Shared→Prop):(X.wish E).Ok:=
 ⟨ok.mod,ok.kind,ok.glob,ok.blt,ok.above,ok.inj,ok.has,ok.cab,ok.hd,ok.frames,ok.stk,ok.exf,ok.bs,ok.Wk,ok.abo,ok.abp,ok.Ax,ok.frf⟩
theorem Cx.Ok.zc {X:Cx}{E:Value→Shared→Prop}(ok:(X.wish E).Ok):X.Ok:=
 ⟨ok.mod,ok.kind,ok.glob,ok.blt,ok.above,ok.inj,ok.has,ok.cab,ok.hd,ok.frames,ok.stk,ok.exf,ok.bs,ok.Wk,ok.abo,ok.abp,ok.Ax,ok.frf⟩
section
variable {X:Cx}{pins:List (Addr×Obj)}{σ:St}{H:Hp}{s:Shared}{E:Value→Shared→Prop}
theorem Inv.wish (I:Inv X pins σ H s) (E:Value→Shared→Prop):Inv (X.wish E) pins σ H s:=⟨I.ok.wish E,I.os,I.bare,I.base,I.loc,I.cell,I.free,I.rT,I.pin,I.hok,I.len⟩
theorem Inv.zc (I:Inv (X.wish E) pins σ H s):Inv X pins σ H s:=⟨I.ok.zc,I.os,I.bare,I.base,I.loc,I.cell,I.free,I.rT,I.pin,I.hok,I.len⟩
theorem SP.zc {D:Ends}{f:Flow}{s':Shared}(h:SP (X.wish E) pins D f s'):SP X pins D f s':=by
 cases f with
 |next=>obtain⟨σ',H',I,q⟩:=h;exact⟨σ',H',I.zc,q⟩
 |brk=>obtain⟨σ',H',I,q⟩:=h;exact⟨σ',H',I.zc,q⟩
 |cont=>obtain⟨σ',H',I,q⟩:=h;exact⟨σ',H',I.zc,q⟩
 |ret u=>obtain⟨v,σ',H',I,r,q⟩:=h;exact⟨v,σ',H',I.zc,r,q⟩
theorem Ny.nox {st:List Stmt}{t:TS}(h:Ny X.nox st t):Ny X st t:=fun pins s σ H D I hw=>
 wpAny_mono (h pins s σ H D (I.wish _) hw) (fun _ _ q=>q.zc) fun _ _ z=>False.elim z
end
section
variable {X:Cx}{st:Stmt}{rest:List Stmt}{t u:TS}{e:Expr}{te:TE}{pos:Pos}
def adv:TS:=fun D σ H=>D.nx σ H
def zf (t u:TS):TS:=fun D σ H=>t {D with nx:=u D} σ H
theorem bC:Ny X [] adv:=fun _ _ σ H _ I h=>wpAny_execs_nil ⟨σ,H,I,h⟩
theorem au (h1:PS X st t) (h2:Ny X rest u):Ny X (st::rest) (zf t u):=by
 intro pins s σ H D I h;refine wpAny_execs_cons (cN (h1 pins s σ H {D with nx:=u D} I h) fun f s1 q=>?_);cases f with
 |next=>
  obtain⟨σ',H',I',q⟩:=q;exact h2 pins s1 σ' H' D I' q
 |ret v=>exact q
 |brk=>exact q
 |cont=>exact q
theorem aB (h1:PS X st t):Ny X [st] t:=by
 intro pins s σ H D I h;refine wpAny_execs_cons (cN (h1 pins s σ H D I h) fun f s1 q=>?_);cases f with
 |next=>exact wpAny_execs_nil q
 |ret v=>exact q
 |brk=>exact q
 |cont=>exact q
theorem Inv.quiet {pins:List (Addr×Obj)}{σ:St}{H:Hp}{s:Shared}(I:Inv X pins σ H s):interactive X.env=false:=by simp[interactive,I.ok.kind]
def Sw (te:TE):TS:=fun D σ H=>te σ H fun _ H1=>D.nx σ H1
theorem iH (he:PE X e te) (hs:swapsWith e none pos.line X.env=pure false:=by rfl):PS X (.Expr e pos) (Sw te):=by
 intro pins s σ H D I h;exact wpAny_Expr_any (cN (he pins s σ H _ I h) fun v s1 ⟨x,H1,I1,r1,q1⟩=>⟨σ,H1,I1,q1⟩) I.quiet hs
def Iv (te:TE):TS:=fun D σ H=>te σ H D.rt
theorem aL (he:PE X e te):PS X (.Return (some e) pos) (Iv te):=by
 intro pins s σ H D I h;exact wpAny_Return_some (cN (he pins s σ H _ I h) fun v s1 ⟨x,H1,I1,r1,q1⟩=>⟨x,σ,H1,I1,r1,q1⟩)
def abt (c:TT) (t u:TS):TS:=fun D σ H=>c σ H fun b H1=>if b=true then t D σ H1 else u D σ H1
theorem bU {c:Expr}{a b:List Stmt}{tc:TT}(hc:PT X c tc) (ha:Ny X a t) (hb:Ny X b u):PS X (.If c a b pos) (abt tc t u):=by
 intro pins s σ H D I h;refine wpAny_If (cN (hc pins s σ H _ I h) fun d s1 ⟨H1,I1,q1⟩=>?_);cases d with
 |true=>exact ha pins s1 σ H1 D I1 q1
 |false=>exact hb pins s1 σ H1 D I1 q1
end
abbrev TG:=V→St→Hp→(St→Hp→Prop)→Prop
abbrev TGs:=List V→St→Hp→(St→Hp→Prop)→Prop
def PG (X:Cx) (target:Expr) (t:TG):Prop:=
 ∀(pins:List (Addr×Obj)) (s:Shared) (σ:St) (H:Hp) (v:V) (u:Value) (Q:St→Hp→Prop),Inv X pins σ H s→RelV v u→t v σ H Q→
  wpAny (model X.prog X.w) X.A (assign target X.env u) (fun _ s'=>∃σ' H',Inv X pins σ' H' s'∧Q σ' H') X.xe s
def PGs (X:Cx) (ts:List Expr) (t:TGs):Prop:=
 ∀(pins:List (Addr×Obj)) (s:Shared) (σ:St) (H:Hp) (vs:List V) (us:List Value) (Q:St→Hp→Prop),Inv X pins σ H s→Vals vs us→t vs σ H Q→
  wpAny (model X.prog X.w) X.A (assignInOrder ((assignEach ts X.env).map (·.2)) us) (fun _ s'=>∃σ' H',Inv X pins σ' H' s'∧Q σ' H') X.xe s
abbrev agx:=V→V→V→Hp→(Hp→Prop)→Prop
def ajh (X:Cx) (t:agx):Prop:=
 ∀(pins:List (Addr×Obj)) (s:Shared) (σ:St) (H:Hp) (o i v:V) (ov iv u:Value) (Q:Hp→Prop),Inv X pins σ H s→RelV o ov→RelV i iv→RelV v u→t o i v H Q→
  wpAny (model X.prog X.w) X.A (setItem ov iv u) (fun _ s'=>∃H',Inv X pins σ H' s'∧Q H') X.xe s
abbrev TIp:=V→V→Hp→VK→Prop
def PIp (X:Cx) (op:Operator) (t:TIp):Prop:=
 ∀(pins:List (Addr×Obj)) (s:Shared) (σ:St) (H:Hp) (x y:V) (v u:Value) (Q:VK),Inv X pins σ H s→RelV x v→RelV y u→t x y H Q→
  wpAny (model X.prog X.w) X.A (inplaceOp op v u) (EP X pins σ Q) X.xe s
section
variable {X:Cx}{pos:Pos}
def pU (i:Nat):TG:=fun v σ H Q=>Q (σ.set i (some v)) H
theorem cO {i:Nat}{x:Str}(hN:X.N.Nodup) (hi:X.N[i]?=some x) (hx:Loc X.env.scope x) (hf:X.fn x=true∨X.env.scope.names.lookup x=some .local:=by first|exact .inl rfl|exact .inr rfl|assumption):PG X (.Name x pos) (pU i):=by
 intro pins s σ H v u Q I r h;exact wpAny_assign_Name (Nv I hN hi hx r (fun s' I'=>⟨_,H,I',h⟩) hf)
def agy:TGs:=fun vs σ H Q=>vs=[]∧Q σ H
def Sx (t:TG) (u:TGs):TGs:=fun vs σ H Q=>∃v r,vs=v::r∧t v σ H fun σ' H'=>u r σ' H' Q
theorem agz:PGs X [] agy:=by
 intro pins s σ H vs us Q I r h;obtain⟨e,h⟩:=h;subst e;cases r;exact assignInOrder_nil ⟨σ,H,I,h⟩
theorem Yl {e:Expr}{es:List Expr}{t:TG}{u:TGs}(h1:PG X e t) (h2:PGs X es u)
  (hs:(assignEach (e::es) X.env).map (·.2)=assign e X.env::(assignEach es X.env).map (·.2):=by rfl):PGs X (e::es) (Sx t u):=by
 intro pins s σ H vs us Q I r h;obtain⟨v,vr,e1,h⟩:=h;subst e1;cases r with
 |cons r rr=>
  rw[hs];refine assignInOrder_cons (cN (h1 pins s σ H _ _ _ I r h) fun _ s1 ⟨σ1,H1,I1,q1⟩=>?_);exact h2 pins s1 σ1 H1 _ _ Q I1 rr q1
def agA (K:PySem.W.Frag) (n:Nat) (t:TGs):TG:=fun v σ H Q=>∃a xs,v= .ref a∧Sv K H a xs∧xs.length=n∧t xs σ H Q
theorem aif {es:List Expr}{k:Nat}{t:TGs}{n:Nat}(hc:X.calm=true) (h:PGs X es t)
  (hn:(assignEach es X.env).length=n:=by rfl) (hst:(assignEach es X.env).findIdx? (·.1)=none:=by rfl):PG X (.Tuple es k pos) (agA X.K n t):=by
 intro pins s σ H v u Q I r hw;obtain⟨a,xs,e1,hq,hl,hw⟩:=hw;subst e1;cases r;obtain⟨its,rv,ht,hz⟩:=I.tuple hq;refine assign_Tuple_tuple (I.ok.hd hc) ht (by simp[hn,←hl,rv.length]) hst fun h' hx=>?_
 have I1:Inv X pins σ H {s with heap:=h'}:=I.kept (t':=s.toks) fun b o e=>hx b o (Nat.ne_of_lt (Heap.lt_size e)) e
 exact h pins _ σ H xs _ Q I1 (by simpa using rv) hw
def agB (to ti:TE) (t:agx):TG:=fun v σ H Q=>to σ H fun o H1=>ti σ H1 fun i H2=>t o i v H2 fun H3=>Q σ H3
theorem aeO {o i:Expr}{to ti:TE}{t:agx}(ho:PE X o to) (hi:PE X i ti) (hs:ajh X t)
  (ha:∀v,assign (.Subscript o i pos) X.env v=(do
   let ov←holding [v] (eval o X.env)
   let iv←holding [v,ov] (eval i X.env)
   standAt pos
   holding [v,ov,iv] (setItem ov iv v)
   release [v,ov,iv] []):=by intro _;rfl):PG X (.Subscript o i pos) (agB to ti t):=by
 intro pins s σ H v u Q I r h;rw[ha];refine wpAny_bind (wpAny_holding (cN (ho pins s σ H _ I h) fun ov s1 ⟨x,H1,I1,r1,q1⟩=>?_));refine wpAny_bind (wpAny_holding (cN (hi pins s1 σ H1 _ I1 q1) fun iv s2 ⟨y,H2,I2,r2,q2⟩=>?_));refine wpAny_bind (wpAny_standAt (wpAny_bind (wpAny_holding (cN (hs pins s2 σ H2 x y v ov iv u _ I2 r1 r2 r q2) fun _ s3 ⟨H3,I3,q3⟩=>?_))));exact wpAny_release ⟨σ,H3,I3,q3⟩
def Qi (te:TE) (g:TG):TS:=fun D σ H=>te σ H fun x H1=>g x σ H1 D.nx
theorem aeP {tg e:Expr}{te:TE}{g:TG}(he:PE X e te) (hg:PG X tg g) (hs:swapsWithSole [tg] e pos.line X.env=pure false:=by rfl) (hw:swappedStores [tg] e X.env=pure none:=by rfl)
  (h1:(assignEach [tg] X.env).map (·.2)=[assign tg X.env]:=by rfl):PS X (.Assign [tg] e pos) (Qi te g):=by
 intro pins s σ H D I h;refine wpAny_Assign_stores (cN (he pins s σ H _ I h) fun v s1 ⟨x,H1,I1,r1,q1⟩=>?_) hs hw;rw[h1];exact cN (hg pins s1 σ H1 x v _ I1 r1 q1) fun _ s2 q=>q
theorem bJ {i:Nat}{x:Str}{e:Expr}{te:TE}{pos':Pos}(hN:X.N.Nodup) (hi:X.N[i]?=some x) (hx:Loc X.env.scope x) (he:PE X e te) (hs:swapsWith e (some (.Name x pos')) pos.line X.env=pure false:=by rfl) (hf:X.fn x=true∨X.env.scope.names.lookup x=some .local:=by first|exact .inl rfl|exact .inr rfl|assumption):
  PS X (.Assign [.Name x pos'] e pos) (Qi te (pU i)):=by
 intro pins s σ H D I h;refine wpAny_Assign_Name (cN (he pins s σ H _ I h) fun v s1 ⟨y,H1,I1,r1,q1⟩=>?_) hs;exact Nv I1 hN hi hx r1 (fun s2 I2=>⟨_,H1,I2,q1⟩) hf
def aj7 (i:Nat) (te:TE) (ti:TIp):TS:=fun D σ H=>∃x,σ[i]?=some (some x)∧te σ H fun y H1=>ti x y H1 fun z H2=>D.nx (σ.set i (some z)) H2
theorem aii {i:Nat}{x:Str}{e:Expr}{te:TE}{op:Operator}{ti:TIp}{pos':Pos}(hN:X.N.Nodup) (hi:X.N[i]?=some x) (hx:Loc X.env.scope x) (he:PE X e te) (ho:PIp X op ti) (hf:X.fn x=true∨X.env.scope.names.lookup x=some .local:=by first|exact .inl rfl|exact .inr rfl|assumption):
  PS X (.AugAssign (.Name x pos') op e pos) (aj7 i te ti):=by
 intro pins s σ H D I h;obtain⟨v,e1,h⟩:=h;obtain⟨m,hn,hl⟩:=I.loc;have vis:Vis X.env.scope x:=by rcases hx with k|k;exact .inl k;exact .inr (.inl k)
 obtain⟨u,r,l⟩:=hl i x v hi e1 vis;refine wpAny_AugAssign_Name ?_;have go:wpAny (model X.prog X.w) X.A (eval e X.env) (fun w s₂=>wpAny (model X.prog X.w) X.A (inplaceOp op u w) (fun r s₃=>wpAny (model X.prog X.w) X.A (storeName X.env x r) (fun _=>SP X pins D .next) X.xe s₃) X.xe s₂) X.xe s:=by
  refine cN (he pins s σ H _ I h) fun w s1 ⟨y,H1,I1,r1,q1⟩=>?_
  refine cN (ho pins s1 σ H1 v y u w _ I1 r r1 q1) fun z s2 ⟨zv,H2,I2,r2,q2⟩=>?_
  exact Nv I2 hN hi hx r2 (fun s3 I3=>⟨_,H2,I3,q2⟩) hf
 rcases l with⟨hk,hm⟩|⟨hk,c,hc,hcell⟩
 ·exact wpAny_loadName_local I.ok.kind hk hn hm go
 ·rcases hk with hk|hk
  ·exact wpAny_loadName_cell I.ok.kind hk hc hcell go
  ·rcases hx with k|k
   ·have:X.env.scope.names.lookup x=some .free:=hk
    rw[k]at this;cases this
   ·have:X.env.scope.names.lookup x=some .free:=hk
    rw[k]at this;cases this
def ipI (f:Int→Int→Int):TIp:=fun x y H Q=>∃i j,x= .int i∧y= .int j∧Q (.int (f i j)) H
theorem aij:PIp X .Add (ipI fun i j=>i+j):=by
 intro pins s σ H x y v u Q I r1 r2 h;obtain⟨i,j,e1,e2,q⟩:=h;subst e1;subst e2
 obtain⟨t,rfl⟩:=r1;obtain⟨t',rfl⟩:=r2;exact iadd_int ⟨.int _,H,I.tok _,⟨_,rfl⟩,q⟩
end
section
variable {X:Cx}{pos:Pos}
def KC (c:TT) (tb:TS):TS:=fun D σ H=>∃W:Nat→St→Hp→Prop,(∃m,W m σ H)∧∀m σ H,W m σ H→
 c σ H fun b H1=>if b=true then∃N:St→Hp→Prop,(∀σ' H',N σ' H'→∃m',m'<m∧W m' σ' H')∧tb {D with nx:=N,ct:=N,bk:=D.nx} σ H1 else D.nx σ H1
theorem Nz {c:Expr}{body:List Stmt}{tc:TT}{tb:TS}(hp:PassesOwn (model X.prog X.w) X.A X.env X.xe) (hc:PT X c tc) (hb:Ny X body tb):PS X (.While c body [] pos) (KC tc tb):=by
 intro pins s σ H D I h;obtain⟨W,⟨m0,w0⟩,turn⟩:=h;refine wpAny_While (codeAny_whileLoop (fun n s'=>∃σ' H',Inv X pins σ' H' s'∧W n σ' H') ?_ m0 ⟨σ,H,I,w0⟩);rintro n s1 ⟨σ1,H1,I1,w1⟩;refine wpAny_passesOwn hp (cN (hc pins s1 σ1 H1 _ I1 (turn n σ1 H1 w1)) fun b s2 ⟨H2,I2,q2⟩=>?_);cases b with
 |true=>
  obtain⟨N,hN,q2⟩:=q2;rw[if_pos rfl];refine wpAny_passesOwn hp (cN (hb pins s2 σ1 H2 _ I2 q2) fun f s3 q3=>?_);cases f with
  |next=>
   obtain⟨σ3,H3,I3,n3⟩:=q3;obtain⟨m',hm,w3⟩:=hN σ3 H3 n3;exact⟨m',hm,σ3,H3,I3,w3⟩
  |cont=>
   obtain⟨σ3,H3,I3,n3⟩:=q3;obtain⟨m',hm,w3⟩:=hN σ3 H3 n3;exact⟨m',hm,σ3,H3,I3,w3⟩
  |brk=>exact q3
  |ret v=>exact q3
 |false=>
  rw[if_neg Bool.false_ne_true];exact wpAny_execs_nil ⟨σ1,H2,I2,q2⟩
end
structure It where
 go:Nat→Hp→Prop
 Zi:Nat→Hp→V→Hp→Prop
 stop:Nat→Hp→Prop
def Es (X:Cx) (pins:List (Addr×Obj)) (H:Hp) (b:Addr):Prop:=
 H b=none∧b≠X.env.locals∧b∉X.fs∧(b∈X.ex∨X.s_0.heap.objs.size≤b)∧(∀x c,X.env.cells.lookup x=some c→c≠b)∧∀p∈X.pn++pins,p.1≠b
theorem Inv.Ym {X:Cx}{pins:List (Addr×Obj)}{σ:St}{H H':Hp}{s:Shared}{b:Addr}(I:Inv X pins σ H s) (hb:s.heap.objs.size≤b) (hn:H' b=none):Es X pins H' b:=by
 refine⟨hn,Nat.ne_of_gt (Nat.lt_of_lt_of_le I.lt hb),I.aj4 hb, .inr (Nat.le_trans I.sz hb),fun x c e z=>?_,fun p hp z=>?_⟩
 ·obtain⟨v,q⟩:=I.cell x c e
  exact absurd (Nat.lt_of_lt_of_le q.lt (by rw[z];exact hb)) (Nat.lt_irrefl _)
 ·exact absurd (Nat.lt_of_lt_of_le (Heap.lt_size (I.pin p hp).1) (by rw[z];exact hb)) (Nat.lt_irrefl _)
structure Turn (P:Program) (w:World) (K:PySem.W.Frag) (tg:Expr) (J:It) (fp:List Addr) (it:Addr) (tn:Nat→Heap→Prop):Prop where
 mem:it∈fp
 obj:∀i h,tn i h→∀b∈fp,∃o,h.get? b=some o∧∀v,o.data≠ .cell v
 keep:∀i h h',tn i h→(∀b∈fp,∀o,h.get? b=some o→h'.get? b=some o)→tn i h'
 item:∀(X:Cx),X.prog=P→X.w=w→X.K=K→X.calm=true→∀(i:Nat) (pins:List (Addr×Obj)) (s:Shared) (σ:St) (H:Hp) (E:Value→Shared→Prop),Inv X pins σ H s→(∀b∈fp,Es X pins H b)→tn i s.heap→J.go i H→
  wpAny (model P w) X.A (pyNext (.ref it)) (fun r s1=>∃u,r=some u∧
   wpAny (model P w) X.A (letOwnedTupleGo tg (.ref it) u) (fun _ s2=>∃x H',Inv X pins σ H' s2∧RelV x u∧J.Zi i H x H'∧tn (i+1) s2.heap∧∀b∈fp,H' b=none) E s1) E s
 done:∀(X:Cx),X.prog=P→X.w=w→X.K=K→X.calm=true→∀(i:Nat) (pins:List (Addr×Obj)) (s:Shared) (σ:St) (H:Hp) (E:Value→Shared→Prop),Inv X pins σ H s→(∀b∈fp,Es X pins H b)→tn i s.heap→J.stop i H→
  wpAny (model P w) X.A (pyNext (.ref it)) (fun r s1=>r=none∧Inv X pins σ H s1) E s
 self:∀(A:Around) (i:Nat) (s:Shared) (Q:Value→Shared→Prop) (E:Value→Shared→Prop),tn i s.heap→Q (.ref it) s→wpAny (model P w) A (pyIter (.ref it)) Q E s
abbrev TI:=St→Hp→(It→Hp→Prop)→Prop
def PIE (X:Cx) (pins:List (Addr×Obj)) (σ:St) (tg:Expr) (R:It→Hp→Prop) (itv:Value) (s2:Shared):Prop:=
 ∃(it:Addr) (fp:List Addr) (tn:Nat→Heap→Prop) (J:It) (H':Hp),itv= .ref it∧Inv X pins σ H' s2∧Turn X.prog X.w X.K tg J fp it tn∧tn 0 s2.heap∧(∀b∈fp,Es X pins H' b)∧R J H'
def PI (X:Cx) (tg iter:Expr) (wi:TI):Prop:=
 ∀(pins:List (Addr×Obj)) (s:Shared) (σ:St) (H:Hp) (R:It→Hp→Prop),Inv X pins σ H s→wi σ H R→
  wpAny (model X.prog X.w) X.A (eval iter X.env) (fun v s1=>wpAny (model X.prog X.w) X.A (pyIter v) (PIE X pins σ tg R) X.xe s1) X.xe s
theorem Zj {M:Model}{A:Around}{E:Value→Shared→Prop}{s:Shared}{tg:Expr}{it:Addr}{u:Value}{o:Obj}{n:String}{vs:Array Value}{Q:Unit→Shared→Prop}(ho:s.heap.get? it=some o) (hc:o.cls= .type n) (hd:o.data= .fields vs)
  (hn:["enumerate","zip","dict_itemiterator","dict_reverseitemiterator","odict_iterator","itertools.zip_longest","itertools.pairwise"].contains n=false) (hQ:Q () s):wpAny M A (letOwnedTupleGo tg (.ref it) u) Q E s:=by
 unfold letOwnedTupleGo;cases tg<;>first
  |exact wpAny_pure hQ
  |(cases u<;>first
    |exact wpAny_pure hQ
    |(refine wpAny_bind (wpAny_load ho ?_)
      rw[hc,hd];show wpAny M A (if (["enumerate","zip","dict_itemiterator","dict_reverseitemiterator","odict_iterator","itertools.zip_longest","itertools.pairwise"].contains n&&vs[0]?==some (rawInt _))=true then _ else _) Q E s;rw[if_neg (by intro h;rw[hn,Bool.false_and]at h;cases h)];exact wpAny_pure hQ))
def Itl (K:PySem.W.Frag) (a:Addr):It:=
 ⟨fun i H=>∃xs x,dR K H a xs∧xs[i]?=some x,fun i H x H'=>H'=H∧∀xs,dR K H a xs→xs[i]?=some x,fun i H=>∃xs,dR K H a xs∧xs.length≤i⟩
def Itr (lo:Int) (n:Nat):It:=⟨fun i _=>i<n,fun i H x H'=>H'=H∧x= .int (lo+i),fun i _=>n≤i⟩
theorem adw {P:Program}{w:World}{K:PySem.W.Frag}{tg:Expr}(a it:Addr):Turn P w K tg (Itl K a) [it] it (fun i h=>h.IsListIter it a i) where
 mem:=by simp
 obj:=fun i h st b hb=>by
  have e:b=it:=by simpa using hb
  subst e;obtain⟨o,e,c,d⟩:=st;exact⟨o,e,fun v z=>by rw[d]at z;cases z⟩
 keep:=fun i h h' st k=>st.at fun o e=>k it (by simp) o e
 item:=by
  intro X hP hw hK hc i pins s σ H E I hf st hg;subst hP hw hK;obtain⟨xs,x,hq,hx⟩:=hg;obtain⟨its,rv,p,hz⟩:=I.list hq;obtain⟨u,hu,ru⟩:=rv.get hx;obtain⟨f0,f1,f2,f3,f4,f5⟩:=hf it (by simp);refine wpAny_pyNext_list_item st p.isList (x:=u) (by simpa using hu) fun h' st' sb=>?_
  have I1:Inv X pins σ H {s with heap:=h'}:=I.turned (t':=s.toks) (fun b o hb e=>(sb.2 b hb).trans e) f0 f1 f3 f4 f5;obtain⟨o,e,c,d⟩:=id st';exact⟨u,rfl,Zj (s:={s with heap:=h'}) e c d (by decide) ⟨x,H,I1,ru,⟨rfl,fun ys hy=>by rw[I.Hu hy hq];exact hx⟩,st',fun b hb=>(hf b hb).1⟩⟩
 done:=by
  intro X hP hw hK hc i pins s σ H E I hf st hg;subst hP hw hK;obtain⟨xs,hq,hx⟩:=hg;obtain⟨its,rv,p,hz⟩:=I.list hq;obtain⟨f0,f1,f2,f3,f4,f5⟩:=hf it (by simp);have hl:=rv.length;exact wpAny_pyNext_list_end (I.ok.hd hc) st p.isList (by simp;omega) fun h' eb=>⟨rfl,I.turned (t':=s.toks) (fun b o hb e=>eb b o hb e) f0 f1 f3 f4 f5⟩
 self:=fun _ _ _ _ _ st h=>wpAny_pyIter_listiter st h
theorem abu {P:Program}{w:World}{K:PySem.W.Frag}{tg:Expr}(it:Addr) (lo:Int) (n:Nat):Turn P w K tg (Itr lo n) [it] it (fun i h=>IsRangeIter h it (lo+(i:Nat)*1) ((n:Int)-(i:Nat)) 1) where
 mem:=by simp
 obj:=fun i h st b hb=>by
  have e:b=it:=by simpa using hb
  subst e;exact⟨_,st,fun v z=>by
   have z':Data.fields _=Data.cell v:=z;cases z'⟩
 keep:=fun i h h' st k=>k it (by simp) _ st
 item:=by
  intro X hP hw hK hc i pins s σ H E I hf st hg;subst hP hw hK;obtain⟨f0,f1,f2,f3,f4,f5⟩:=hf it (by simp);have W:=Walks.range (prog:=X.prog) (w:=X.w) (I.ok.hd hc) it lo 1 n;refine W.item i s _ _ hg st fun v h' tk hv st' kk=>?_
  obtain⟨t,rfl⟩:=hv;have I1:Inv X pins σ H {s with heap:=h',toks:=tk}:=I.turned (fun b o hb e=>kk b o (by simpa using hb) e) f0 f1 f3 f4 f5;refine⟨_,rfl,Zj (s:={s with heap:=h',toks:=tk}) (n:="range_iterator") st' rfl rfl (by decide) ⟨.int (lo+i),H,I1,⟨t,?_⟩,⟨rfl,rfl⟩,st',fun b hb=>(hf b hb).1⟩⟩;rw[Int.mul_one]
 done:=by
  intro X hP hw hK hc i pins s σ H E I hf st hg;subst hP hw hK;obtain⟨f0,f1,f2,f3,f4,f5⟩:=hf it (by simp);exact wpAny_pyNext_range_end (I.ok.hd hc) st (by have:n≤i:=hg;omega) fun h' eb=>⟨rfl,I.turned (t':=s.toks) (fun b o hb e=>eb b o hb e) f0 f1 f3 f4 f5⟩
 self:=fun _ _ _ _ _ st h=>wpAny_pyIter_rangeiter st h
end L2
namespace L2
open PySem PySem.Spec PyProof.Rows
section
variable {X:Cx}{tg:Expr}
def Sy (K:PySem.W.Frag) (tl:TE):TI:=fun σ H R=>tl σ H fun x H1=>∃a,x= .ref a∧(∃xs,dR K H1 a xs)∧R (Itl K a) H1
theorem iI {l:Expr}{tl:TE}(hl:PE X l tl):PI X tg l (Sy X.K tl):=by
 intro pins s σ H R I h;refine cN (hl pins s σ H _ I h) fun v s1 ⟨x,H1,I1,r1,q1⟩=>?_
 obtain⟨a,e,⟨xs,hq⟩,q⟩:=q1;subst e;cases r1;obtain⟨its,rv,p,hz⟩:=I1.list hq;refine wpAny_pyIter_list p.isList ?_;refine⟨s1.heap.objs.size,[s1.heap.objs.size],_,_,H1,rfl,I1.kept (t':=s1.toks) fun b o e=>Heap.get?_push_of_some _ e,adw a _,⟨_,Heap.get?_push_size _ rfl,rfl,rfl⟩,fun b hb=>?_,q⟩;have e:b=s1.heap.objs.size:=by simpa using hb
 subst e;exact I1.Ym (Nat.le_refl _) (I1.hok.fresh (Nat.le_refl _))
theorem afq {pins:List (Addr×Obj)}{σ:St}{H:Hp}{s:Shared}{R:It→Hp→Prop}{E:Value→Shared→Prop}{lo hi:Int}{t u v:Tok}{tk:Nat}(I:Inv X pins σ H s) (h1: -(2^62)≤lo) (h2:lo<2^62) (h3: -(2^62)≤hi) (h4:hi<2^62)
  (q:R (Itr lo (hi-lo).toNat) H):wpAny (model X.prog X.w) X.A (pyIter (.ref s.heap.objs.size)) (PIE X pins σ tg R) E {s with heap:=s.heap.push {cls:= .type "range",data:= .fields #[.int lo t, .int hi u, .int 1 v]},toks:=tk}:=by
 refine wpAny_pyIter_range (IsRange.new ..) (small_one h1 h2 h3 h4) ?_;have I1:Inv X pins σ H {s with heap:=s.heap.push {cls:= .type "range",data:= .fields #[.int lo t, .int hi u, .int 1 v]},toks:=tk}:=I.kept fun b o e=>Heap.get?_push_of_some _ e
 refine⟨(s.heap.push {cls:= .type "range",data:= .fields #[.int lo t, .int hi u, .int 1 v]}).objs.size,[(s.heap.push {cls:= .type "range",data:= .fields #[.int lo t, .int hi u, .int 1 v]}).objs.size],_,_,H,rfl,
  I1.kept (t':=tk) fun b o e=>Heap.get?_push_of_some _ e,abu _ lo (hi-lo).toNat,?_,fun b hb=>?_,q⟩
 ·have e1:lo+((0:Nat):Int)*1=lo:=by simp
  have e2:(((hi-lo).toNat:Nat):Int)-((0:Nat):Int)=Builtin.Range.rangeSize lo hi 1:=by rw[rangeSize_one];split<;>omega
  show IsRangeIter _ _ (lo+((0:Nat):Int)*1) ((((hi-lo).toNat:Nat):Int)-((0:Nat):Int)) 1;rw[e1,e2];exact Heap.get?_push_size _ rfl
 ·have e:b=(s.heap.push {cls:= .type "range",data:= .fields #[.int lo t, .int hi u, .int 1 v]}).objs.size:=by simpa using hb
  subst e;exact I1.Ym (Nat.le_refl _) (I1.hok.fresh (Nat.le_refl _))
def Zk (ta:TA):TI:=fun σ H R=>ta σ H fun vs H1=>∃j:Int,vs=[.int j]∧-(2^62)≤j∧j<2^62∧R (Itr 0 j.toNat) H1
theorem lQ {a:Expr}{ta:TA}{p pos:Pos}(hg:Gl X "range") (hm:X.mg "range"=none) (ha:PA X [a] ta) (hs:starEach [a] X.env=[(false,eval a X.env)]:=by rfl):PI X tg (.Call (.Name "range" p) [a] [] pos) (Zk ta):=by
 intro pins s σ H R I h;refine Call_ (Hq I hg hm boot_range (PyProof.Rows.callWith_type1 (cN (ha pos pins s σ H _ I h) fun us s1 ⟨vs,H1,I1,r1,q1⟩=>?_) hs rfl));obtain⟨j,e,q1,q2,q⟩:=q1;subst e;cases r1 with
 |cons r rr=>
  cases rr;obtain⟨t,rfl⟩:=r;exact call_range_1 (afq I1 (by omega) (by omega) q1 q2 (by simpa using q))
def aeQ (wi:TI) (g:TG) (tb:TS):TS:=fun D σ H=>wi σ H fun J H1=>∃W:Nat→Nat→St→Hp→Prop,(∃m,W 0 m σ H1)∧∀i m σ H,W i m σ H→
 (J.stop i H∧D.nx σ H)∨(J.go i H∧∃N:St→Hp→Prop,(∀σ' H',N σ' H'→∃m',m'<m∧W (i+1) m' σ' H')∧∀x H',J.Zi i H x H'→g x σ H' fun σ2 H2=>tb {D with nx:=N,ct:=N,bk:=D.nx} σ2 H2)
def KD (fp:List Addr) (h:Heap):List (Addr×Obj):=fp.filterMap fun b=>(h.get? b).map fun o=>(b,o)
theorem Fq {fp:List Addr}{h:Heap}{b:Addr}{o:Obj}(hb:b∈fp) (e:h.get? b=some o):(b,o)∈KD fp h:=List.mem_filterMap.mpr ⟨b,hb,by rw[e];rfl⟩
theorem adx {fp:List Addr}{h:Heap}{p:Addr×Obj}(hp:p∈KD fp h):p.1∈fp∧h.get? p.1=some p.2:=by
 obtain⟨b,hb,e⟩:=List.mem_filterMap.mp hp;cases q:h.get? b with
 |none=>rw[q]at e;cases e
 |some o=>
  rw[q]at e;have e':(b,o)=p:=Option.some.inj e;subst e';exact⟨hb,q⟩
theorem Inv.pinned {pins:List (Addr×Obj)}{σ:St}{H:Hp}{s:Shared}{fp:List Addr}(I:Inv X pins σ H s) (hf:∀b∈fp,Es X pins H b) (ho:∀b∈fp,∃o,s.heap.get? b=some o∧∀v,o.data≠ .cell v):Inv X (pins++KD fp s.heap) σ H s:=
 I.abr fun p hp=>(List.mem_append.mp hp).elim (fun z=>I.pin p (List.mem_append_right _ z)) fun z=>by
  obtain⟨hb,e⟩:=adx z;obtain⟨f0,f1,f2,_⟩:=hf p.1 hb;obtain⟨o,e',d⟩:=ho p.1 hb;rw[e]at e';cases e'
  exact⟨e,f0,f1,f2,d⟩
theorem Inv.Hv {pins pl:List (Addr×Obj)}{σ:St}{H:Hp}{s:Shared}(I:Inv X (pins++pl) σ H s):Inv X pins σ H s:=I.abr fun p hp=>I.pin p (List.mem_append_right _ (List.mem_append_left _ hp))
theorem rU {iter:Expr}{body:List Stmt}{wi:TI}{g:TG}{tb:TS}{pos:Pos}(hp:PassesOwn (model X.prog X.w) X.A X.env X.xe) (hc:X.calm=true) (hi:PI X tg iter wi) (hg:PG X tg g) (hb:Ny X body tb)
  (hs:∀x,foldedSetIterable iter X.env x=pure x:=by intro _;rfl):PS X (.For tg iter body [] pos) (aeQ wi g tb):=by
 intro pins s σ H D I h;refine wpAny_For (cN (hi pins s σ H _ I h) fun v s1 h1=>cN h1 fun itv s2 h2=>?_) hs;obtain⟨it,fp,tn,J,H2,e,I2,T,st2,f2,W,⟨m0,w0⟩,turn⟩:=h2;subst e
 -- what stays true of the iterator's objects through the loop
 have stat:∀{H':Hp},(∀b∈fp,H' b=none)→∀b∈fp,Es X pins H' b:=fun hn b hb=>⟨hn b hb,(f2 b hb).2⟩
 refine codeAny_forLoop_any (fun n s'=>∃i σ' H',Inv X pins σ' H' s'∧tn i s'.heap∧(∀b∈fp,H' b=none)∧W i n σ' H') ?_ m0 ⟨0,σ,H2,I2,st2,fun b hb=>(f2 b hb).1,w0⟩;rintro n s3 ⟨i,σ3,H3,I3,st3,fr3,w3⟩;rcases turn i n σ3 H3 w3 with⟨stop,qn⟩|⟨go,N,hN,step⟩
 ·refine wpAny_passesOwn hp (cN (T.done X rfl rfl rfl hc i pins s3 σ3 H3 X.xe I3 (stat fr3) st3 stop) fun r s4 ⟨hr,I4⟩=>?_)
  subst hr;exact wpAny_execs_nil ⟨σ3,H3,I4,qn⟩
 ·refine wpAny_passesOwn hp (cN (T.item X rfl rfl rfl hc i pins s3 σ3 H3 X.xe I3 (stat fr3) st3 go) fun r s4 ⟨u,hr,h4⟩=>?_)
  subst hr;refine wpAny_passesOwn hp (cN h4 fun _ s5 ⟨x,H5,I5,r5,y5,st5,fr5⟩=>?_);have I5':=I5.pinned (stat fr5) (T.obj _ _ st5);refine wpAny_passesOwn hp (cN (hg _ s5 σ3 H5 x u _ I5' r5 (step x H5 y5)) fun _ s6 ⟨σ6,H6,I6,q6⟩=>?_);refine wpAny_passesOwn hp (cN (hb _ s6 σ6 H6 _ I6 q6) fun f s7 q7=>?_);have again:∀{σ7:St}{H7:Hp},Inv X (pins++KD fp s5.heap) σ7 H7 s7→N σ7 H7→∃m,m<n∧∃i σ' H',Inv X pins σ' H' s7∧tn i s7.heap∧(∀b∈fp,H' b=none)∧W i m σ' H':=fun{σ7 H7} I7 n7=>by
   obtain⟨m',hm,w7⟩:=hN σ7 H7 n7;refine⟨m',hm,i+1,σ7,H7,I7.Hv,T.keep _ _ _ st5 fun b hb o e=>(I7.pin (b,o) (List.mem_append_right _ (List.mem_append_right _ (Fq hb e)))).1,fun b hb=>?_,w7⟩;obtain⟨o,e,d⟩:=T.obj _ _ st5 b hb;exact(I7.pin (b,o) (List.mem_append_right _ (List.mem_append_right _ (Fq hb e)))).2.1
  cases f with
  |next=>obtain⟨σ7,H7,I7,n7⟩:=q7;exact again I7 n7
  |cont=>obtain⟨σ7,H7,I7,n7⟩:=q7;exact again I7 n7
  |brk=>obtain⟨σ7,H7,I7,q7⟩:=q7;exact⟨σ7,H7,I7.Hv,q7⟩
  |ret v=>obtain⟨x7,σ7,H7,I7,r7,q7⟩:=q7;exact⟨x7,σ7,H7,I7.Hv,r7,q7⟩
end
theorem NK {K:PySem.W.Frag}{a:Addr}{xs:List V}{g:TG}{tb:TS}{D:Ends}{σ:St}{H:Hp}(Pv:Nat→St→Hp→Prop) (h0:Pv 0 σ H) (hl:∀i σ H,i≤xs.length→Pv i σ H→dR K H a xs)
  (hs:∀i x σ H,xs[i]?=some x→Pv i σ H→g x σ H fun σ2 H2=>tb {D with nx:=Pv (i+1),ct:=Pv (i+1),bk:=D.nx} σ2 H2) (hd:∀σ H,Pv xs.length σ H→D.nx σ H):
  ∃W:Nat→Nat→St→Hp→Prop,(∃m,W 0 m σ H)∧∀i m σ H,W i m σ H→
   ((Itl K a).stop i H∧D.nx σ H)∨((Itl K a).go i H∧∃N:St→Hp→Prop,(∀σ' H',N σ' H'→∃m',m'<m∧W (i+1) m' σ' H')∧∀x H',(Itl K a).Zi i H x H'→g x σ H' fun σ2 H2=>tb {D with nx:=N,ct:=N,bk:=D.nx} σ2 H2):=by
 refine⟨fun i m σ H=>m=xs.length-i∧i≤xs.length∧Pv i σ H,⟨xs.length,by simp,Nat.zero_le _,h0⟩,?_⟩;rintro i m σ H ⟨rfl,hi,p⟩;have q:=hl i σ H hi p;by_cases hlt:i<xs.length
 ·refine .inr ⟨⟨xs,xs[i],q,by simp[hlt]⟩,Pv (i+1),fun σ' H' p'=>⟨xs.length-(i+1),by omega,rfl,hlt,p'⟩,fun x H' y=>?_⟩
  obtain⟨e,y⟩:=y;subst e;exact hs i x σ _ (y xs q) p
 ·have e:i=xs.length:=by omega
  subst e;exact .inl ⟨⟨xs,q,Nat.le_refl _⟩,hd σ H p⟩
theorem ady {lo:Int}{n:Nat}{g:TG}{tb:TS}{D:Ends}{σ:St}{H:Hp}(Pv:Nat→St→Hp→Prop) (h0:Pv 0 σ H)
  (hs:∀i σ H,i<n→Pv i σ H→g (.int (lo+i)) σ H fun σ2 H2=>tb {D with nx:=Pv (i+1),ct:=Pv (i+1),bk:=D.nx} σ2 H2) (hd:∀σ H,Pv n σ H→D.nx σ H):
  ∃W:Nat→Nat→St→Hp→Prop,(∃m,W 0 m σ H)∧∀i m σ H,W i m σ H→
   ((Itr lo n).stop i H∧D.nx σ H)∨((Itr lo n).go i H∧∃N:St→Hp→Prop,(∀σ' H',N σ' H'→∃m',m'<m∧W (i+1) m' σ' H')∧∀x H',(Itr lo n).Zi i H x H'→g x σ H' fun σ2 H2=>tb {D with nx:=N,ct:=N,bk:=D.nx} σ2 H2):=by
 refine⟨fun i m σ H=>m=n-i∧i≤n∧Pv i σ H,⟨n,by simp,Nat.zero_le _,h0⟩,?_⟩;rintro i m σ H ⟨rfl,hi,p⟩;by_cases hlt:i<n
 ·refine .inr ⟨hlt,Pv (i+1),fun σ' H' p'=>⟨n-(i+1),by omega,rfl,hlt,p'⟩,fun x H' y=>?_⟩
  obtain⟨e,y⟩:=y;subst e y;exact hs i σ _ hlt p
 ·have e:i=n:=by omega
  subst e;exact .inl ⟨Nat.le_refl _,hd σ H p⟩
end L2
namespace L2
open PySem PySem.Spec PyProof.Rows
abbrev R2:=V→V→Hp→VK→Prop
def wF (X:Cx) (f:Value→Value→Sem Value) (r:R2):Prop:=
 ∀(pins:List (Addr×Obj)) (s:Shared) (σ:St) (H:Hp) (x y:V) (v u:Value) (Q:VK),Inv X pins σ H s→RelV x v→RelV y u→r x y H Q→
  wpAny (model X.prog X.w) X.A (f v u) (EP X pins σ Q) X.xe s
def rW (X:Cx) (f:Value) (r:List V→Hp→VK→Prop):Prop:=
 ∀(pins:List (Addr×Obj)) (s:Shared) (σ:St) (H:Hp) (xs:List V) (us:List Value) (Q:VK),Inv X pins σ H s→Vals xs us→r xs H Q→
  wpAny (model X.prog X.w) X.A (call f us) (EP X pins σ Q) X.xe s
def rz (r:R2) (ta tb:TE):TE:=fun σ H Q=>ta σ H fun x H1=>tb σ H1 fun y H2=>r x y H2 Q
def rI (C:Int→Int→Prop) (g:Int→Int→V):R2:=fun x y H Q=>∃i j,x= .int i∧y= .int j∧C i j∧Q (g i j) H
def za (g:Int→Int→V):R2:=fun x y H Q=>∃i j,x= .int i∧y= .int j∧Q (g i j) H
section
variable {X:Cx}{a b c:Expr}{ta tb tc:TE}{pos:Pos}
theorem agC (ha:PE X a ta) (hb:PE X b tb){pins:List (Addr×Obj)}{s:Shared}{σ:St}{H:Hp}{R:V→V→Hp→Prop}(I:Inv X pins σ H s)
  (h:ta σ H fun x H1=>tb σ H1 fun y H2=>R x y H2){Q:Value→Shared→Prop}{f:Value→Value→Sem Value}
  (hf:∀v u s2 x y H2,Inv X pins σ H2 s2→RelV x v→RelV y u→R x y H2→wpAny (model X.prog X.w) X.A (f v u) Q X.xe s2):
  wpAny (model X.prog X.w) X.A (eval a X.env) (fun v s₁=>wpAny (model X.prog X.w) X.A (eval b X.env) (fun u s₂=>wpAny (model X.prog X.w) X.A (f v u) Q X.xe s₂) X.xe s₁) X.xe s:=by
 refine cN (ha pins s σ H _ I h) fun v s1 ⟨x,H1,I1,r1,q1⟩=>?_
 refine cN (hb pins s1 σ H1 _ I1 q1) fun u s2 ⟨y,H2,I2,r2,q2⟩=>?_
 exact hf v u s2 x y H2 I2 r1 r2 q2
theorem dw {op:Operator}{r:R2}(ho:wF X (binaryOp op) r) (ha:PE X a ta) (hb:PE X b tb):PE X (.BinOp a op b pos) (rz r ta tb):=by
 intro pins s σ H Q I h;exact wpAny_BinOp (agC ha hb I h fun v u s2 x y H2 I2 rx ry q=>ho pins s2 σ H2 x y v u Q I2 rx ry q)
theorem opI {f:Value→Value→Sem Value}{C:Int→Int→Prop}{g:Int→Int→Int}
  (rule:∀(i j:Int) (t u:Tok) (s:Shared) (Q:Value→Shared→Prop) (E:Value→Shared→Prop),C i j→Q (.int (g i j) s.toks) {s with toks:=s.toks+1}→wpAny (model X.prog X.w) X.A (f (.int i t) (.int j u)) Q E s):
  wF X f (rI C fun i j=> .int (g i j)):=by
 intro pins s σ H x y v u Q I rx ry h;obtain⟨i,j,rfl,rfl,hc,q⟩:=h;obtain⟨t,rfl⟩:=rx;obtain⟨t',rfl⟩:=ry;exact rule i j t t' s _ _ hc ⟨.int (g i j),H,I.tok _,⟨_,rfl⟩,q⟩
theorem abv {f:Value→Value→Sem Value}{g:Int→Int→Int}
  (rule:∀(i j:Int) (t u:Tok) (s:Shared) (Q:Value→Shared→Prop) (E:Value→Shared→Prop),Q (.int (g i j) s.toks) {s with toks:=s.toks+1}→wpAny (model X.prog X.w) X.A (f (.int i t) (.int j u)) Q E s):
  wF X f (za fun i j=> .int (g i j)):=by
 intro pins s σ H x y v u Q I rx ry h;obtain⟨i,j,rfl,rfl,q⟩:=h;obtain⟨t,rfl⟩:=rx;obtain⟨t',rfl⟩:=ry;exact rule i j t t' s _ _ ⟨.int (g i j),H,I.tok _,⟨_,rfl⟩,q⟩
theorem aeR {f:Value→Value→Sem Value}{g:Int→Int→Bool}
  (rule:∀(i j:Int) (t u:Tok) (s:Shared) (Q:Value→Shared→Prop) (E:Value→Shared→Prop),Q (.bool (g i j)) s→wpAny (model X.prog X.w) X.A (f (.int i t) (.int j u)) Q E s):
  wF X f (za fun i j=> .bl (g i j)):=by
 intro pins s σ H x y v u Q I rx ry h;obtain⟨i,j,rfl,rfl,q⟩:=h;obtain⟨t,rfl⟩:=rx;obtain⟨t',rfl⟩:=ry;exact rule i j t t' s _ _ ⟨.bl (g i j),H,I,rfl,q⟩
def aji (i j:Int):Prop:=0<j∧j<1073741824
def agD (i j:Int):Prop:=0≤j∧j≤1000000∧i.natAbs<2^64
theorem abw (k:Nat):(0:Int)≤2^k:=by
 rw[two_pow_cast];exact Int.natCast_nonneg _
theorem BX:wF X (binaryOp .Add) (za fun i j=> .int (i+j)):=abv fun _ _ _ _ _ _ _ q=>add_int q
theorem BZ:wF X (binaryOp .Sub) (za fun i j=> .int (i-j)):=abv fun _ _ _ _ _ _ _ q=>sub_int q
theorem abx:wF X (binaryOp .FloorDiv) (rI aji fun i j=> .int (i/j)):=opI fun i j _ _ _ _ _ hc q=>by
 have h1:(0:Int)<j:=hc.1;have h2:j<1073741824:=hc.2;exact floordiv_int (by omega) (by rw[Int.fdiv_eq_ediv_of_nonneg i (by omega)];exact q) (.inl (PyProof.noPylong_small (by omega)))
theorem aeS:wF X (binaryOp .Mod) (rI (fun _ j=>0<j) fun i j=> .int (i%j)):=opI fun i j _ _ _ _ _ hc q=>by
 have h1:(0:Int)<j:=hc;exact mod_int' (by omega) (by rw[Int.fmod_eq_emod_of_nonneg i (by omega)];exact q)
theorem Zm:wF X (binaryOp .LShift) (rI agD fun i j=> .int (i*2^j.toNat)):=opI fun _ _ _ _ _ _ _ hc q=>lshift_int_small hc.1 hc.2.1 hc.2.2 q
theorem Zn:wF X (binaryOp .RShift) (rI (fun _ j=>0≤j) fun i j=> .int (i/2^j.toNat)):=opI fun i j _ _ _ _ _ hc q=>
 rshift_int hc (by rw[Int.fdiv_eq_ediv_of_nonneg i (abw _)];exact q)
theorem R4:wF X (binaryOp .BitAnd) (za fun i j=> .int (Builtin.bitAnd i j)):=abv fun _ _ _ _ _ _ _ q=>and_int q
theorem Zo:wF X (binaryOp .BitOr) (za fun i j=> .int (Builtin.bitOr i j)):=abv fun _ _ _ _ _ _ _ q=>or_int q
theorem aik:wF X (binaryOp .BitXor) (za fun i j=> .int (Builtin.bitXor i j)):=abv fun _ _ _ _ _ _ _ q=>xor_int q
end
def ajj:V→V→Bool
 | .non, .non=>true| .non, .int _=>true| .int _, .non=>true| .non, .bl _=>true| .bl _, .non=>true| .non, .str _=>true| .str _, .non=>true
 | .int _, .int _=>true| .bl _, .bl _=>true| .str _, .str _=>true| .Fe _, .Fe _=>true
 | .int _, .str _=>true| .str _, .int _=>true| .bl _, .str _=>true| .str _, .bl _=>true
 |_,_=>false
def rEq:R2:=fun x y H Q=>ajj x y=true∧Q (.bl (decide (x=y))) H
def rNe:R2:=fun x y H Q=>ajj x y=true∧Q (.bl (!decide (x=y))) H
theorem KH {i j:Int}:decide (V.int i=V.int j)=(i==j):=by
 rw[Bool.eq_iff_iff];simp
theorem aeT {i j:Bool}:decide (V.bl i=V.bl j)=(i==j):=by
 rw[Bool.eq_iff_iff];simp
theorem aby {i j:Str}:decide (V.str i=V.str j)=(i==j):=by
 rw[Bool.eq_iff_iff];simp
theorem abz {i j:Array UInt8}:decide (V.Fe i=V.Fe j)=(i.toList==j.toList):=by
 rw[Bool.eq_iff_iff];cases i;cases j;simp
section
variable {X:Cx}{a b c:Expr}{ta tb tc:TE}{pos:Pos}
theorem cY {pins:List (Addr×Obj)}{σ:St}{H:Hp}{s:Shared}{Q:VK}{k k':Bool}(I:Inv X pins σ H s) (q:Q (.bl k) H) (e:k=k'):EP X pins σ Q (.bool k') s:=by
 subst e;exact⟨.bl k,H,I,rfl,q⟩
theorem dW:wF X (compareOp .Eq) rEq:=by
 intro pins s σ H x y v u Q I rx ry h;obtain⟨hs,q⟩:=h;cases x with
 |non=>
  cases rx;cases y with
  |non=>cases ry;exact PySem.EqNone.eq_none_none (cY I q (by simp))
  |bl j=>cases ry;exact PySem.EqNone.eq_none_bool (cY I q (by simp))
  |int j=>obtain⟨t',rfl⟩:=ry;exact PySem.EqNone.eq_none_int (cY I q (by simp))
  |str j=>obtain⟨t',rfl⟩:=ry;exact PySem.EqNone.eq_none_str (cY I q (by simp))
  |_=>exact absurd (show false=true from hs) Bool.false_ne_true
 |bl i=>
  cases rx;cases y with
  |non=>cases ry;exact PySem.EqNone.eq_bool_none (cY I q (by simp))
  |bl j=>cases ry;exact eq_bool (cY I q aeT)
  |str j=>obtain⟨t',rfl⟩:=ry;exact PySem.EqMixed.eq_bool_str (cY I q (by simp))
  |_=>exact absurd (show false=true from hs) Bool.false_ne_true
 |int i=>
  obtain⟨t,rfl⟩:=rx;cases y with
  |non=>cases ry;exact PySem.EqNone.eq_int_none (cY I q (by simp))
  |int j=>obtain⟨t',rfl⟩:=ry;exact eq_int (cY I q KH)
  |str j=>obtain⟨t',rfl⟩:=ry;exact PySem.EqMixed.eq_int_str (cY I q (by simp))
  |_=>exact absurd (show false=true from hs) Bool.false_ne_true
 |str i=>
  obtain⟨t,rfl⟩:=rx;cases y with
  |non=>cases ry;exact PySem.EqNone.eq_str_none (cY I q (by simp))
  |bl j=>cases ry;exact PySem.EqMixed.eq_str_bool (cY I q (by simp))
  |int j=>obtain⟨t',rfl⟩:=ry;exact PySem.EqMixed.eq_str_int (cY I q (by simp))
  |str j=>obtain⟨t',rfl⟩:=ry;exact eq_str (cY I q aby)
  |_=>exact absurd (show false=true from hs) Bool.false_ne_true
 |Fe i=>
  obtain⟨t,rfl⟩:=rx;cases y with
  |Fe j=>obtain⟨t',rfl⟩:=ry;exact PySem.W.eq_bytes (cY I q abz)
  |_=>exact absurd (show false=true from hs) Bool.false_ne_true
 |_=>cases y<;>exact absurd (show false=true from hs) Bool.false_ne_true
theorem Ft:wF X (compareOp .NotEq) rNe:=by
 intro pins s σ H x y v u Q I rx ry h;obtain⟨hs,q⟩:=h;cases x with
 |non=>
  cases rx;cases y with
  |non=>cases ry;exact PySem.EqNone.ne_none_none (cY I q (by simp))
  |bl j=>cases ry;exact PySem.EqNone.ne_none_bool (cY I q (by simp))
  |int j=>obtain⟨t',rfl⟩:=ry;exact PySem.EqNone.ne_none_int (cY I q (by simp))
  |str j=>obtain⟨t',rfl⟩:=ry;exact PySem.EqNone.ne_none_str (cY I q (by simp))
  |_=>exact absurd (show false=true from hs) Bool.false_ne_true
 |bl i=>
  cases rx;cases y with
  |non=>cases ry;exact PySem.EqNone.ne_bool_none (cY I q (by simp))
  |bl j=>cases ry;exact ne_bool (cY I q (congrArg not aeT))
  |str j=>obtain⟨t',rfl⟩:=ry;exact PySem.EqMixed.ne_bool_str (cY I q (by simp))
  |_=>exact absurd (show false=true from hs) Bool.false_ne_true
 |int i=>
  obtain⟨t,rfl⟩:=rx;cases y with
  |non=>cases ry;exact PySem.EqNone.ne_int_none (cY I q (by simp))
  |int j=>obtain⟨t',rfl⟩:=ry;exact ne_int (cY I q (congrArg not KH))
  |str j=>obtain⟨t',rfl⟩:=ry;exact PySem.EqMixed.ne_int_str (cY I q (by simp))
  |_=>exact absurd (show false=true from hs) Bool.false_ne_true
 |str i=>
  obtain⟨t,rfl⟩:=rx;cases y with
  |non=>cases ry;exact PySem.EqNone.ne_str_none (cY I q (by simp))
  |bl j=>cases ry;exact PySem.EqMixed.ne_str_bool (cY I q (by simp))
  |int j=>obtain⟨t',rfl⟩:=ry;exact PySem.EqMixed.ne_str_int (cY I q (by simp))
  |str j=>obtain⟨t',rfl⟩:=ry;exact ne_str (cY I q (congrArg not aby))
  |_=>exact absurd (show false=true from hs) Bool.false_ne_true
 |Fe i=>
  obtain⟨t,rfl⟩:=rx;cases y with
  |Fe j=>obtain⟨t',rfl⟩:=ry;exact PySem.W.ne_bytes (cY I q (congrArg not abz))
  |_=>exact absurd (show false=true from hs) Bool.false_ne_true
 |_=>cases y<;>exact absurd (show false=true from hs) Bool.false_ne_true
theorem Fv:wF X (compareOp .Lt) (za fun i j=> .bl (decide (i<j))):=aeR fun _ _ _ _ _ _ _ q=>lt_int q
theorem adz:wF X (compareOp .LtE) (za fun i j=> .bl (decide (i≤j))):=aeR fun _ _ _ _ _ _ _ q=>le_int q
theorem adA:wF X (compareOp .Gt) (za fun i j=> .bl (decide (j<i))):=aeR fun _ _ _ _ _ _ _ q=>gt_int q
theorem agE:wF X (compareOp .GtE) (za fun i j=> .bl (decide (j≤i))):=aeR fun _ _ _ _ _ _ _ q=>ge_int q
theorem Zq:wF X (compareOp .Is) (fun x y H Q=>y= .non∧Q (.bl (decide (x= .non))) H):=by
 intro pins s σ H x y v u Q I rx ry h;obtain⟨rfl,q⟩:=h;cases ry;refine is_none_gen (cY I q ?_);cases x<;>first
  |(cases rx;rfl)
  |(obtain⟨t,rfl⟩:=rx;rfl)
theorem agF:wF X (compareOp .IsNot) (fun x y H Q=>y= .non∧Q (.bl (!decide (x= .non))) H):=by
 intro pins s σ H x y v u Q I rx ry h;obtain⟨rfl,q⟩:=h;cases ry;refine isnot_none_gen (cY I q ?_);cases x<;>first
  |(cases rx;rfl)
  |(obtain⟨t,rfl⟩:=rx;rfl)
theorem bD (b:Expr){op:CmpOp}(h:op≠ .In:=by decide) (h2:op≠ .NotIn:=by decide):behindInMarks op b=false:=by
 have e1:(op==CmpOp.In)=false:=by cases op<;>first|rfl|exact absurd rfl h
 have e2:(op==CmpOp.NotIn)=false:=by cases op<;>first|rfl|exact absurd rfl h2
 cases b<;>simp[behindInMarks,e1,e2]
theorem eY {op:CmpOp}{r:R2}(ho:wF X (compareOp op) r) (ha:PE X a ta) (hb:PE X b tb) (hm:behindInMarks op b=false):PE X (.Compare a [op] [b] pos) (rz r ta tb):=by
 intro pins s σ H Q I h;exact wpAny_Compare1 (agC ha hb I h fun v u s2 x y H2 I2 rx ry q=>ho pins s2 σ H2 x y v u Q I2 rx ry q) hm
def Zr (t:TE):TT:=fun σ H Q=>t σ H fun x H'=>∃k,x= .bl k∧Q k H'
theorem bM {op:CmpOp}{r:R2}(ho:wF X (compareOp op) r) (ha:PE X a ta) (hb:PE X b tb) (hm:behindInMarks op b=false):PT X (.Compare a [op] [b] pos) (Zr (rz r ta tb)):=by
 intro pins s σ H Q I h;refine wpAny_isTrue_Compare1 (cN (ha pins s σ H _ I h) fun v s1 ⟨x,H1,I1,r1,q1⟩=>cN (hb pins s1 σ H1 _ I1 q1) fun u s2 ⟨y,H2,I2,r2,q2⟩=>
  cN (ho pins s2 σ H2 x y v u _ I2 r1 r2 q2) fun c s3 ⟨z,H3,I3,r3,k,e,q3⟩=>?_) hm
 subst e;cases r3;exact wpAny_truthy_bool ⟨H3,I3,q3⟩
theorem KJ:(sizeLine:Nat)<2^63:=by rw[sizeLine_eq];decide
theorem vals1 {x:V}{us:List Value}(r:Vals [x] us):∃u,us=[u]∧RelV x u:=by
 cases r with
 |cons r1 r2=>cases r2;exact⟨_,rfl,r1⟩
theorem vals2 {x y:V}{us:List Value}(r:Vals [x,y] us):∃u w',us=[u,w']∧RelV x u∧RelV y w':=by
 cases r with
 |cons r1 r2=>
  cases r2 with
  |cons r3 r4=>cases r4;exact⟨_,_,rfl,r1,r3⟩
theorem adB (hc:X.calm=true):rW X (.builtin "min") (fun xs H Q=>∃i j,xs=[.int i, .int j]∧Q (.int (if j<i then j else i)) H):=by
 intro pins s σ H xs us Q I r h;obtain⟨i,j,rfl,q⟩:=h;obtain⟨u,w',rfl,⟨t,rfl⟩,⟨t',rfl⟩⟩:=vals2 r;refine min_two_ints (I.ok.hd hc) fun h' tk k=>⟨_,H,I.kept k,?_,q⟩
 by_cases hj:j<i
 ·rw[if_pos hj,if_pos hj];exact⟨_,rfl⟩
 ·rw[if_neg hj,if_neg hj];exact⟨_,rfl⟩
def agG (K:PySem.W.Frag) (x:V) (H:Hp) (n:Nat):Prop:=
 match x with
 | .str y=>y.length≤sizeLine∧n=y.length
 | .Fe y=>y.size≤sizeLine∧n=y.size
 | .ref p=>(∃xs,dR K H p xs∧n=xs.length)∨∃xs,Sv K H p xs∧n=xs.length
 |_=>False
theorem cA:rW X (.builtin "len") (fun xs H Q=>∃x n,xs=[x]∧agG X.K x H n∧Q (.int n) H):=by
 intro pins s σ H xs us Q I r h;obtain⟨x,n,rfl,e,q⟩:=h;obtain⟨u,rfl,rx⟩:=vals1 r;have hl:=KJ;have hs:sizeLine=16777216:=sizeLine_eq;cases x with
 |str y=>
  obtain⟨t,rfl⟩:=rx;obtain⟨hy,e'⟩:y.length≤sizeLine∧n=y.length:=e;subst e';exact len_str (by omega) ⟨.int _,H,I.tok _,⟨_,rfl⟩,q⟩
 |Fe y=>
  obtain⟨t,rfl⟩:=rx;obtain⟨hy,e'⟩:y.size≤sizeLine∧n=y.size:=e;subst e';exact PySem.W.len_bytes (by omega) ⟨.int _,H,I.tok _,⟨_,rfl⟩,q⟩
 |ref p=>
  cases rx;have e':(∃xs,dR X.K H p xs∧n=xs.length)∨∃xs,Sv X.K H p xs∧n=xs.length:=e
  rcases e' with⟨xs,hx,e'⟩|⟨xs,hx,e'⟩
  ·subst e'
   obtain⟨its,r',pl,hz⟩:=I.list hx;have hlen:=r'.length;exact Calls.call_len_list pl.isList (by simp only[List.size_toArray];omega) ⟨.int xs.length,H,I.tok _,⟨_,by simp only[List.size_toArray];rw[hlen]⟩,q⟩
  ·subst e'
   obtain⟨its,r',pl,hz⟩:=I.tuple hx;have hlen:=r'.length;exact len_tuple pl (by simp only[List.size_toArray];omega) ⟨.int xs.length,H,I.tok _,⟨_,by simp only[List.size_toArray];rw[hlen]⟩,q⟩
 |_=>exact(show False from e).elim
end
end L2
namespace L2
open PySem PySem.Spec PyProof.Rows
structure Yn (h:Heap) (x dx C:Addr) (mA:Str→Option Value):Prop where
 obj:h.get? x=some (PySem.W.instObj C dx)
 ns:h.Ns1 dx mA
 ne:dx≠x
theorem adC {h:Heap}{dx:Addr}{mA:Str→Option Value}(n:h.Ns1 dx mA):∃od,h.get? dx=some od∧∀name,PySem.W.lookIn name od=some (mA name):=by
 obtain⟨o,es,ep,ho,hd,hk,_,hm⟩:=n;refine⟨o,ho,fun name=>?_⟩;have e:=hm name;unfold nsFind findBy at e;rw[←Array.find?_toList]at e;unfold PySem.W.lookIn;rw[hd];dsimp only
 split
 ·rename_i y q
  rw[q]at e;exact congrArg some e
 ·rename_i q
  rw[q]at e;have a:es.toList.any (·.refKey)=false:=by
   rw[List.any_eq_false];intro y hy;obtain⟨z,t,hkey⟩:=hk y (Array.mem_toList_iff.mp hy);simp[DictEntry.refKey,hkey]
  have a':¬es.toList.any (·.refKey)=true:=by rw[a];exact Bool.false_ne_true
  rw[if_neg a'];exact congrArg some e
theorem Yn.look {h:Heap}{x dx C:Addr}{mA:Str→Option Value}(I:Yn h x dx C mA):∃od,PySem.W.InstAt h x (PySem.W.instObj C dx) C (some od)∧∀name,PySem.W.lookIn name od=some (mA name):=
 let⟨od,ho,hl⟩:=adC I.ns
 ⟨od,⟨I.obj,rfl,rfl,ho⟩,hl⟩
section
variable {prog:Program}{w:World}{A:Around}{E:Value→Shared→Prop}{s:Shared}{K:PySem.W.Frag}{x dx C f:Addr}{mA:Str→Option Value}{name:Str}{v:Value}
theorem get_map {expr:Bool}{Q:Value→Shared→Prop}(X:K.In s.heap) (I:Yn s.heap x dx C mA) (hg:PySem.W.plainGet K C name=true) (hh:PySem.W.hasDictIn K C=true)
  (ha:PySem.W.findIn K (.ref C) name=some none) (hv:mA name=some v) (hv':PySem.W.handedIn v=true) (h:Q v {s with toks:=s.toks+1}):
  wpAny (model prog w) A (getAttr (.ref x) name expr) Q E s:=by
 obtain⟨od,J,hl⟩:=I.look;exact PySem.W.get_value X J (PySem.W.plainGet_of hg).1 (PySem.W.findObj_own hh ha rfl (by rw[hl,hv])) hv' h
theorem agH {ns:List Str}{Q:Unit→Shared→Prop}(X:K.In s.heap) (I:Yn s.heap x dx C mA)
  (hs:PySem.W.findIn K (.ref C) "__setattr__"=some (some (.builtin "object.__setattr__"))) (hp:PySem.W.plainOver K C=true) (ht:PySem.W.takerIn K C name=some none) (hh:PySem.W.hasDictIn K C=true)
  (hw:PySem.Within mA ns) (hsz:ns.length≤sizeLine)
  (h:∀h',Yn h' x dx C (fun y=>if y=name then some v else mA y)→Heap.SameBut dx s.heap h'→Q () {s with heap:=h',toks:=s.toks+2}):
  wpAny (model prog w) A (setAttr (.ref x) name v) Q E s:=by
 obtain⟨od,J,hl⟩:=I.look;refine PySem.W.set_plain X J hs (PySem.W.osa_open (s:={s with toks:=s.toks+1}) (r:=none) X J hp ht fun b=>?_);obtain⟨cd,hc,hd'⟩:=PySem.W.any_some hh;have hx:s.heap.get? x=some ⟨.ref C,some dx, .plain,#[]⟩:=I.obj;refine wpAny_bind (wpAny_pure (wpAny_bind (wpAny_bind (wpAny_loadPart hx (wpAny_bind (PySem.W.Looks.here (s:={s with toks:=s.toks+1}) (PySem.W.looks_clsIn X hc) ?_))))));rw[hd'];refine wpAny_pure (a:=some dx) (wpAny_bind (wpAny_pure (wpAny_bind ?_)));refine wpAny_nsSet1 (s:={s with toks:=s.toks+1}) I.ns fun h' hn2 hs2=>?_
 obtain⟨oD,esD,epD,hoD,hdD,hcD⟩:=hn2.count (PySem.Within.cons name v hw);refine wpAny_bind (wpAny_lookBehind hoD (by rw[hdD];exact pastItsLine_dict (Nat.le_trans hcD (by rw[List.length_cons];omega))) ?_);exact wpAny_pure (h _ ⟨(hs2.2 _ (Ne.symm I.ne)).trans I.obj,hn2,I.ne⟩ hs2)
theorem afr {R:Result→Shared→Prop}{vs:List Value}{kw:List (Str×Value)}(X:K.In s.heap) (hm:PySem.W.makesIn K C=true)
  (hi:PySem.W.findIn K (.ref C) "__init__"=some (some (.ref f))) (hf:PySem.W.typeIn K (.ref f)=some (.type "function"))
  (h:codeAny (model prog w) (A.under (.builtin "type.__call__" ⟨.ref C::vs,kw⟩)) (.call (.ref f) ⟨.ref (s.heap.objs.size+1)::vs,kw⟩) (PySem.W.InitBack (s.heap.objs.size+1) R)
   {s with heap:=(s.heap.push PySem.W.emptyDict).push (PySem.W.instObj C s.heap.objs.size)}):
  codeAny (model prog w) A (.call (.ref C) ⟨vs,kw⟩) R s:=by
 obtain⟨hh,g,d,t,os⟩:=s;exact PySem.W.make_core (PySem.W.makes_of X hm) (PySem.W.looks_findIn X hi) (fun self=>PySem.W.bind_fn X self hf) (.inl rfl) h
end
def bF (f:Str) (v:V):List (Str×V)→List (Str×V)
 |[]=>[(f,v)]
 |(g,x)::r=>if g=f then(g,v)::r else(g,x)::bF f v r
theorem KN (f g:Str) (v:V):∀fs:List (Str×V),(bF f v fs).lookup g=if g=f then some v else fs.lookup g
 |[]=>by
  show List.lookup g [(f,v)]=_;by_cases h:g=f
  ·have hb:(g==f)=true:=beq_iff_eq.mpr h
   simp only[List.lookup,hb,if_pos h]
  ·have hb:(g==f)=false:=beq_eq_false_iff_ne.mpr h
   simp only[List.lookup,hb,if_neg h]
 |(k,x)::r=>by
  have ih:=KN f g v r;rw[show bF f v ((k,x)::r)=(if k=f then(k,v)::r else(k,x)::bF f v r)from rfl];by_cases hk:k=f
  ·rw[if_pos hk]
   by_cases h:g=k
   ·have hb:(g==k)=true:=beq_iff_eq.mpr h
    simp only[List.lookup,hb,if_pos (h.trans hk)]
   ·have hb:(g==k)=false:=beq_eq_false_iff_ne.mpr h
    simp only[List.lookup,hb,if_neg (fun e:g=f=>h (e.trans hk.symm))]
  ·rw[if_neg hk]
   by_cases h:g=k
   ·have hb:(g==k)=true:=beq_iff_eq.mpr h
    simp only[List.lookup,hb,if_neg (fun e:g=f=>hk (h.symm.trans e))]
   ·have hb:(g==k)=false:=beq_eq_false_iff_ne.mpr h
    simp only[List.lookup,hb];exact ih
theorem Js (f:Str) (v:V):∀fs:List (Str×V),f∈(bF f v fs).map (·.1)∧∀g,g∈fs.map (·.1)→g∈(bF f v fs).map (·.1)
 |[]=>⟨by simp[bF],fun g h=>by simp at h⟩
 |(k,x)::r=>by
  obtain⟨i1,i2⟩:=Js f v r;rw[show bF f v ((k,x)::r)=(if k=f then(k,v)::r else(k,x)::bF f v r)from rfl];by_cases hk:k=f
  ·rw[if_pos hk]
   subst hk;exact⟨by simp,fun g h=>by simpa using h⟩
  ·rw[if_neg hk]
   refine⟨?_,fun g h=>?_⟩
   ·rw[List.map_cons]
    exact List.mem_cons_of_mem _ i1
   ·rw[List.map_cons]at h⊢
    rcases List.mem_cons.mp h with e|e
    ·exact List.mem_cons.mpr (.inl e)
    ·exact List.mem_cons_of_mem _ (i2 g e)
theorem KQ (f:Str) (v:V):∀fs:List (Str×V),(bF f v fs).length≤fs.length+1
 |[]=>by simp[bF]
 |(k,x)::r=>by
  have ih:=KQ f v r;rw[show bF f v ((k,x)::r)=(if k=f then(k,v)::r else(k,x)::bF f v r)from rfl];by_cases hk:k=f
  ·rw[if_pos hk,List.length_cons,List.length_cons];omega
  ·rw[if_neg hk,List.length_cons,List.length_cons];omega
theorem wD.some_of {v:V}{o:Option Value}(r:wD (some v) o):∃u,o=some u∧RelV v u:=by
 cases o with
 |none=>exact(show False from r).elim
 |some u=>exact⟨u,rfl,r⟩
theorem adD {v:V}{u:Value}(r:RelV v u):PySem.W.handedIn u=true:=by
 cases v with
 |non=>cases(show u=Value.none from r);rfl
 |bl b=>cases(show u=Value.bool b from r);rfl
 |int i=>obtain⟨t,e⟩:=(show∃t,u=Value.int i t from r);cases e;rfl
 |str x=>obtain⟨t,e⟩:=(show∃t,u=Value.str x t from r);cases e;rfl
 |Fe b=>obtain⟨t,e⟩:=(show∃t,u=Value.bytes b t from r);cases e;rfl
 |flt b=>obtain⟨t,e⟩:=(show∃t,u=Value.float b t from r);cases e;rfl
 |ref a=>cases(show u=Value.ref a from r);rfl
 |ty n=>cases(show u=Value.type n from r);rfl
section
variable {P:Program}{w:World}{H H':Hp}{h h':Heap}{a C dx:Addr}{fs fs':List (Str×V)}
theorem abA (hok:nY P w H h) (e:H a=some (.ins C dx fs)):∃mA,Yn h a dx C mA∧(∀f,wD (fs.lookup f) (mA f))∧PySem.Within mA (fs.map (·.1))∧fs.length≤1000∧H dx=some (.own a):=by
 obtain⟨d,z,ne,ob,mA,n,r,q⟩:=(show fD P w H h a (.ins C dx fs)from hok a _ e);exact⟨mA,⟨ob,n,ne⟩,r,q,z,d⟩
end
structure Cls (K:PySem.W.Frag) (C:Addr):Prop where
 pg:PySem.W.plainGet K C Str.empty=true
 hd:PySem.W.hasDictIn K C=true
 po:PySem.W.plainOver K C=true
 sa:PySem.W.findIn K (.ref C) "__setattr__"=some (some (.builtin "object.__setattr__"))
theorem Cls.get {K:PySem.W.Frag}{C:Addr}(c:Cls K C) (f:Str):PySem.W.plainGet K C f=true:=c.pg
def cI (K:PySem.W.Frag) (C:Addr) (f:Str):Prop:=PySem.W.findIn K (.ref C) f=some none
theorem cI.taker {K:PySem.W.Frag}{C:Addr}{f:Str}(n:cI K C f):PySem.W.takerIn K C f=some none:=by
 unfold PySem.W.takerIn;rw[show PySem.W.findIn K (.ref C) f=some none from n];rfl
section
variable {X:Cx}{pins:List (Addr×Obj)}{σ:St}{H:Hp}{s:Shared}{a C dx:Addr}{fs:List (Str×V)}{f:Str}{v:V}{A:Around}{E:Value→Shared→Prop}
theorem abB {b:Bool}{Q:Value→Shared→Prop}(I:Inv X pins σ H s) (e:H a=some (.ins C dx fs)) (c:Cls X.K C) (n:cI X.K C f) (l:fs.lookup f=some v)
  (h:∀u s',Inv X pins σ H s'→RelV v u→Q u s'):wpAny (model X.prog X.w) A (getAttr (.ref a) f b) Q E s:=by
 obtain⟨mA,O,r,_,_,_⟩:=abA I.hok e;obtain⟨u,hu,ru⟩:=wD.some_of (v:=v) (o:=mA f) (by rw[←l];exact r f);exact get_map I.Nt O (c.get f) c.hd n hu (adD ru) (h u _ (I.tok _) ru)
theorem abC {y:V}{u:Value}{Q:Unit→Shared→Prop}(I:Inv X pins σ H s) (e:H a=some (.ins C dx fs)) (c:Cls X.K C) (n:cI X.K C f) (hl:fs.length<1000) (ry:RelV y u)
  (h:∀s',Inv X pins σ (upd H a (.ins C dx (bF f y fs))) s'→Q () s'):wpAny (model X.prog X.w) A (setAttr (.ref a) f u) Q E s:=by
 obtain⟨mA,O,r,wi,_,ho⟩:=abA I.hok e;have hz:(fs.map (·.1)).length≤sizeLine:=by rw[List.length_map,sizeLine_eq];omega
 refine agH I.Nt O c.sa c.po n.taker c.hd wi hz fun h' O' sb=>h _ ?_
 have hd:∃o,h'.get? dx=some o:=let⟨o,_,_,e',_⟩:=O'.ns;⟨o,e'⟩
 refine I.write (x:=a) (e:=dx) (by rw[e];exact True.intro) (.inr ho) (fun b q hb z=>(sb.2 b hb).trans z) hd ?_;refine⟨by rw[aJ O.ne];exact ho,?_,O.ne,O'.obj,_,O'.ns,fun g=>?_,fun g hg=>?_⟩
 ·have:=KQ f y fs;omega
 ·show wD ((bF f y fs).lookup g) (if g=f then some u else mA g)
  rw[KN];by_cases q:g=f
  ·rw[if_pos q,if_pos q];exact ry
  ·rw[if_neg q,if_neg q];exact r g
 ·by_cases q:g=f
  ·rw[q];exact(Js f y fs).1
  ·refine(Js f y fs).2 g (wi g fun z=>hg ?_)
   show(if g=f then some u else mA g)=none;rw[if_neg q];exact z
theorem Inv.made (I:Inv X pins σ H s):Inv X pins σ (upd (upd H s.heap.objs.size (.own (s.heap.objs.size+1))) (s.heap.objs.size+1) (.ins C s.heap.objs.size []))
  {s with heap:=(s.heap.push PySem.W.emptyDict).push (PySem.W.instObj C s.heap.objs.size)}:=by
 have e1:(s.heap.push PySem.W.emptyDict).get? s.heap.objs.size=some PySem.W.emptyDict:=Heap.get?_push_size s.heap rfl;have e2:((s.heap.push PySem.W.emptyDict).push (PySem.W.instObj C s.heap.objs.size)).get? (s.heap.objs.size+1)=some (PySem.W.instObj C s.heap.objs.size):=by
  have:=Heap.get?_push_size (s.heap.push PySem.W.emptyDict) (o:=PySem.W.instObj C s.heap.objs.size) rfl
  rwa [Heap.size_push]at this
 have e3:(s.heap.push PySem.W.emptyDict).Ns s.heap.objs.size (fun _=>none):=⟨PySem.W.emptyDict,#[],_,e1,rfl,(fun e he=>absurd he (by simp)),fun _=>rfl⟩;have I1:=I.laid (a:=s.heap.objs.size) (o:= .own (s.heap.objs.size+1)) (h':=s.heap.push PySem.W.emptyDict) (t':=s.toks) (fun b u q=>Heap.get?_push_of_some _ q) (Nat.le_refl _) ⟨_,e1⟩;refine I1.laid (a:=s.heap.objs.size+1) (o:= .ins C s.heap.objs.size []) (t':=s.toks) (fun b u q=>Heap.get?_push_of_some _ q) (Nat.le_of_eq (Heap.size_push _ _)) ?_;have ne:s.heap.objs.size≠s.heap.objs.size+1:=Nat.ne_of_lt (Nat.lt_succ_self _);refine⟨by rw[aJ ne,aq],Nat.zero_le _,ne,e2,fun _=>none,(Heap.Ns1.of_empty e3).at fun o q=>Heap.get?_push_of_some _ q,fun _=>True.intro,fun y hy=>absurd rfl hy⟩
theorem agI {prog:Program}{w:World}{env:Env}{e:Expr}{f:Str}{pos:Pos}{s:Shared}{Q:Value→Shared→Prop}(hb:attributeBase e f env (eval e env)=eval e env)
  (h:wpAny (model prog w) A (eval e env) (fun o s₁=>wpAny (model prog w) A (getAttr o f true) Q E s₁) E s):wpAny (model prog w) A (eval (.Attribute e f pos) env) Q E s:=
 Attribute_any_ h (by rw[arm_eval_Attribute,hb])
end
def Yo (K:PySem.W.Frag) (ta:TE) (f:Str):TE:=fun σ H Q=>ta σ H fun x H1=>∃a C dx fs v,x= .ref a∧H1 a=some (.ins C dx fs)∧Cls K C∧cI K C f∧fs.lookup f=some v∧Q v H1
def agJ (K:PySem.W.Frag) (ta tv:TE) (f:Str):TS:=fun D σ H=>tv σ H fun y H1=>ta σ H1 fun x H2=>∃a C dx fs,x= .ref a∧H2 a=some (.ins C dx fs)∧Cls K C∧cI K C f∧fs.length<1000∧
 D.nx σ (upd H2 a (.ins C dx (bF f y fs)))
section
variable {X:Cx}{o e value:Expr}{f:Str}{pos pos' tpos:Pos}{ta tv:TE}
theorem aN (he:PE X e ta) (hb:attributeBase e f X.env (eval e X.env)=eval e X.env):PE X (.Attribute e f pos) (Yo X.K ta f):=by
 intro pins s σ H Q I h;refine agI hb (cN (he pins s σ H _ I h) fun u s1 ⟨x,H1,I1,rx,a,C,dx,fs,v,ex,ea,c,n,l,q⟩=>?_);subst ex;obtain rfl:u=Value.ref a:=rx;exact abB I1 ea c n l fun u' s2 I2 ru=>⟨v,H1,I2,ru,q⟩
theorem dX (ha:PE X o ta) (hv:PE X value tv) (hs:swapsWith value (some (.Attribute o f pos')) pos.line X.env=pure false):PS X (.Assign [.Attribute o f pos'] value pos) (agJ X.K ta tv f):=by
 intro pins s σ H D I h;refine plainObj_wpAny_Assign_Attribute (cN (hv pins s σ H _ I h) fun u s1 ⟨y,H1,I1,ry,q⟩=>cN (ha pins s1 σ H1 _ I1 q) fun ov s2 ⟨x,H2,I2,rx,a,C,dx,fs,ex,ea,c,n,l,q2⟩=>?_) hs;subst ex;obtain rfl:ov=Value.ref a:=rx;exact abC I2 ea c n l ry fun s3 I3=>⟨σ,_,I3,q2⟩
end
end L2
namespace L2
open PySem PySem.Spec PyProof.Rows
structure iY (k:Nat) (A:Around):Prop where
 hd:A.handled=none
 dp:A.depth+3*k+5<recursionLimit
 un:A.units+16*k+200<cLine
theorem iY.mono {j k:Nat}{A:Around}(r:iY k A) (h:j≤k):iY j A:=⟨r.hd,by have:=r.dp;omega,by have:=r.un;omega⟩
theorem iY.deeper {k:Nat}{A:Around}(r:iY (k+1) A) (env:Env):iY k (A.deeper env):=
 ⟨r.hd,by have:=r.dp;show A.depth+1+3*k+5<_;omega,by have:=r.un;show A.units+3+16*k+200<_;omega⟩
theorem iY.in1 {k:Nat}{A:Around}(r:iY (k+1) A):iY k A.in1:=
 ⟨r.hd,by have:=r.dp;show A.depth+3*k+5<_;omega,by have:=r.un;show A.units+1+16*k+200<_;omega⟩
theorem abD {A:Around}{C:Addr}{us:List Value}{kw:List (Str×Value)}:(A.under (.builtin "type.__call__" ⟨.ref C::us,kw⟩)).depth=A.depth+1:=by
 first|rfl|simp[Around.under,Code.weight,Code.isCreation,Code.isGuard,Code.isCaller,Code.frames,Code.isFrame,guardIds]
theorem abE {A:Around}{C:Addr}{us:List Value}{kw:List (Str×Value)}:(A.under (.builtin "type.__call__" ⟨.ref C::us,kw⟩)).units=A.units+1:=by
 first|rfl|simp[Around.under,Code.cUnits,Code.frames,Code.isFrame]
theorem iY.make {k:Nat}{A:Around}(r:iY (k+1) A) (C:Addr) (us:List Value) (kw:List (Str×Value)):iY k (A.under (.builtin "type.__call__" ⟨.ref C::us,kw⟩)):=
 ⟨r.hd,by have:=r.dp;rw[abD];omega,by have:=r.un;rw[abE];omega⟩
theorem iY.depth {k:Nat}{A:Around}(r:iY k A):A.depth<recursionLimit:=by have:=r.dp;omega
theorem iY.units {k:Nat}{A:Around}(r:iY k A):A.units+64<cLine:=by have:=r.un;omega
def pR:TA:=fun _ H Q=>Q [] H
def gB (ta:TE) (tr:TA):TA:=fun σ H Q=>ta σ H fun x H1=>tr σ H1 fun xs H2=>Q (x::xs) H2
section
variable {X:Cx}{e:Expr}{es:List Expr}{te:TE}{t:TA}{pos:Pos}
theorem ao:PA X [] pR:=fun _ _ _ _ H Q I h=>Calls.spliced_nil ⟨[],H,I, .nil,h⟩
theorem ak (ha:PE X e te) (hr:PA X es t) (hs:starEach (e::es) X.env=(false,eval e X.env)::starEach es X.env:=by rfl):PA X (e::es) (gB te t):=by
 intro pos pins s σ H Q I h;rw[hs];show wpAny _ _ (spliced ((false,eval e X.env)::backTo pos (starEach es X.env))) _ _ s;refine Calls.spliced_cons (cN (ha pins s σ H _ I h) fun u s1 ⟨x,H1,I1,r1,q1⟩=>?_);exact cN (hr pos pins s1 σ H1 _ I1 q1) fun us s2 ⟨xs,H2,I2,r2,q2⟩=>⟨x::xs,H2,I2, .cons r1 r2,q2⟩
def agK (t:TA):TE:=fun σ H Q=>t σ H fun xs H1=>xs.length≤sizeLine∧∀p,H1 p=none→Q (.ref p) (upd H1 p (.tup xs))
def SJ (t:TA):TE:=fun σ H Q=>t σ H fun xs H1=>xs.length≤sizeLine∧∀p,H1 p=none→Q (.ref p) (upd H1 p (.lst xs))
theorem Ca {x1}(h:PA X es t):PE X (.Tuple es x1 pos) (agK t):=by
 intro pins s σ H Q I hq;refine wpAny_Tuple_spliced (cN (h pos pins s σ H _ I hq) fun us s1 ⟨xs,H1,I1,r,z,q⟩=>⟨by rw[←r.length];exact z,?_⟩);have hf:H1 s1.heap.objs.size=none:=I1.hok.fresh (Nat.le_refl _);refine⟨.ref s1.heap.objs.size,upd H1 s1.heap.objs.size (.tup xs),I1.laid (t':=s1.toks) (fun b u e=>Heap.get?_push_of_some _ e) (Nat.le_refl _) ?_,rfl,q _ hf⟩;exact⟨z,us,r,⟨_,Heap.get?_push_size _ rfl,rfl,_,rfl⟩⟩
theorem bL (h:PA X es t):PE X (.List es pos) (SJ t):=by
 intro pins s σ H Q I hq;refine wpAny_List_spliced (cN (h pos pins s σ H _ I hq) fun us s1 ⟨xs,H1,I1,r,z,q⟩=>⟨by rw[←r.length];exact z,?_⟩);have hf:H1 s1.heap.objs.size=none:=I1.hok.fresh (Nat.le_refl _);refine⟨.ref s1.heap.objs.size,upd H1 s1.heap.objs.size (.lst xs),I1.laid (t':=s1.toks) (fun b u e=>Heap.get?_push_of_some _ e) (Nat.le_refl _) ?_,rfl,q _ hf⟩;exact⟨z,us,0,r,Heap.get?_push_size _ rfl⟩
end
abbrev Sp:=List V→Hp→VK→XK→Prop
abbrev QK:=List Env→Hp→Shared→XK→Value→Shared→Prop
structure Iw (P:Program) (w:World) (K:PySem.W.Frag) (mg:Str→Option Value) (base:Heap) (A:Around) (outer:List Env) (s:Shared) (H:Hp):Prop where
 frames:A.frames=some outer
 mod:Mod K mg base
 bs:∀b o,base.get? b=some o→s.heap.get? b=some o∧H b=none
 Wk:base.objs.size≤s.heap.objs.size
 Ax:s.heap.FunFrames base outer
 frf:∀b∈frs outer,H b=none
 hok:nY P w H s.heap
 bare:AllBare s.gens
def CE (outer:List Env) (P:Program) (w:World) (H:Hp) (s:Shared) (Q:VK) (u:Value) (s':Shared):Prop:=
 ∃v H',s'.os=s.os∧AllBare s'.gens∧Un (frs outer) [] H H' s.heap s'.heap∧nY P w H' s'.heap∧RelV v u∧Q v H'
def CR (CX:QK) (outer:List Env) (P:Program) (w:World) (H:Hp) (s:Shared) (Q:VK) (E:XK) (r:Result) (s':Shared):Prop:=
 match r with
 | .ok (.ret u)=>CE outer P w H s Q u s'
 | .ok _=>False
 | .error e=>CX outer H s E e s'
structure bK (P:Program) (w:World) (K:PySem.W.Frag) (mg:Str→Option Value) (base:Heap) (CX:QK) (k:Nat) (f:Addr) (fd:FuncData) (ps:List Str) (sp:Sp):Prop where
 len:∀vs H Q E,sp vs H Q E→vs.length=ps.length
 run:∀(A:Around) (outer:List Env) (s:Shared) (H:Hp) (args:Args) (us:List Value) (vs:List V) (Q:VK) (E:XK),iY k A→Iw P w K mg base A outer s H→BindsTo s fd args (ps.zip us)→Vals vs us→sp vs H Q E→
  codeAny (model P w) A (.call (.ref f) args) (CR CX outer P w H s Q E) s
theorem Iw.make {P:Program}{w:World}{K:PySem.W.Frag}{mg:Str→Option Value}{base:Heap}{A:Around}{outer:List Env}{s:Shared}{H:Hp}(e:Iw P w K mg base A outer s H) (C:Addr) (us:List Value) (kw:List (Str×Value)):
  Iw P w K mg base (A.under (.builtin "type.__call__" ⟨.ref C::us,kw⟩)) outer s H:=⟨by first|exact e.frames|(simpa[Around.under,Code.envs,Code.isFrame,pushEnvs]using e.frames),e.mod,e.bs,e.Wk,e.Ax,e.frf,e.hok,e.bare⟩
theorem Iw.in1 {P:Program}{w:World}{K:PySem.W.Frag}{mg:Str→Option Value}{base:Heap}{A:Around}{outer:List Env}{s:Shared}{H:Hp}(e:Iw P w K mg base A outer s H):
  Iw P w K mg base A.in1 outer s H:=⟨e.frames,e.mod,e.bs,e.Wk,e.Ax,e.frf,e.hok,e.bare⟩
section
variable {X:Cx}{pins:List (Addr×Obj)}{σ:St}{H:Hp}{s s':Shared}
theorem Inv.env0 (I:Inv X pins σ H s):Iw X.prog X.w X.K X.mg X.base X.A X.stack s H:=
 ⟨I.ok.frames,I.ok.mod,I.bs,Nat.le_trans I.ok.Wk I.sz,I.stack,I.abq,I.hok,I.bare⟩
theorem Inv.after {Q:VK}{u:Value}(I:Inv X pins σ H s) (h:CE X.stack X.prog X.w H s Q u s'):EP X pins σ Q u s':=by
 obtain⟨v,H',os,bare,un,hok,r,q⟩:=h;obtain⟨hh,g,d,t,os'⟩:=s';obtain rfl:os'=s.os:=os;exact⟨v,H',I.call (h':=hh) (g':=g) (d':=d) (t':=t) (ch:=[]) un hok bare (fun b z=>absurd z (by simp)),r,q⟩
end
def NP (sp:Sp) (Fw:List V) (E:XK) (t:TA):TE:=fun σ H Q=>t σ H fun vs H1=>sp (vs++Fw) H1 Q E
def adE (C:Addr) (sp:Sp) (Fw:List V) (E:XK) (t:TA):TE:=fun σ H Q=>t σ H fun vs H1=>∀x dx,H1 x=none→H1 dx=none→dx≠x→
 sp (.ref x::(vs++Fw)) (upd (upd H1 dx (.own x)) x (.ins C dx [])) (fun v H2=>v= .non∧Q (.ref x) H2) E
def Binds (K:PySem.W.Frag) (fd:FuncData) (ps:List Str) (ds:List Value):Prop:=
 ∀(s:Shared) (us:List Value),K.In s.heap→(us++ds).length=ps.length→BindsTo s fd ⟨us,[]⟩ (ps.zip (us++ds))
theorem Binds.all {K:PySem.W.Frag}{fd:FuncData}{ps:List Str}(h:∀us:List Value,us.length=ps.length→bindArgs fd ⟨us,[]⟩=pure (ps.zip us)):Binds K fd ps []:=fun s us _ hl=>by
 rw[List.append_nil]at hl⊢;exact .of_eq (h us hl)
def Passes (CX:QK) (X:Cx) (E:XK):Prop:=∀(pins:List (Addr×Obj)) (σ:St) (H:Hp) (s:Shared) (e:Value) (s':Shared),Inv X pins σ H s→CX X.stack H s E e s'→X.xe e s'
section
variable {X:Cx}{CX:QK}{k:Nat}{f C:Addr}{fd:FuncData}{ps:List Str}{sp:Sp}{Fw:List V}{ds:List Value}{E:XK}{x m:Str}{p pos apos:Pos}{e o:Expr}{es:List Expr}{ta:TE}{t:TA}
theorem ail {pins:List (Addr×Obj)}{σ:St}{H:Hp}{s:Shared}{Q:VK}{us:List Value}{vs:List V}(F:bK X.prog X.w X.K X.mg X.base CX k f fd ps sp) (hr:iY k X.A) (hb:Binds X.K fd ps ds) (hd:Vals Fw ds) (hx:Passes CX X E)
  (I:Inv X pins σ H s) (r:Vals vs us) (h:sp (vs++Fw) H Q E):wpAny (model X.prog X.w) X.A (call (.ref f) us) (EP X pins σ Q) X.xe s:=by
 have r2:Vals (vs++Fw) (us++ds):=r.append hd;have hl:(us++ds).length=ps.length:=by rw[←r2.length];exact F.len _ _ _ _ h
 refine wpAny_call (codeAny_mono (F.run X.A X.stack s H ⟨us,[]⟩ (us++ds) (vs++Fw) Q E hr I.env0 (hb s us I.Nt hl) r2 h) fun r s' hq=>?_);cases r with
 |error e=>exact hx pins σ H s e s' I hq
 |ok fl=>
  cases fl with
  |ret u=>exact I.after hq
  |next=>exact False.elim hq
  |brk=>exact False.elim hq
  |cont=>exact False.elim hq
theorem aH (F:bK X.prog X.w X.K X.mg X.base CX k f fd ps sp) (hr:iY k X.A) (hg:Gl X x) (hm:X.mg x=some (.ref f)) (hk:PySem.W.keepIn X.K (.ref f)=true) (hb:Binds X.K fd ps ds) (hd:Vals Fw ds) (hx:Passes CX X E)
  (ha:PA X (e::es) t) (hdb:(x==("__debug__":Str))=false:=by decide) (he:starEach (e::es) X.env=(false,eval e X.env)::starEach es X.env:=by rfl) (hpl:(backTo pos (starEach es X.env)).any (·.1)=false:=by rfl):
  PE X (.Call (.Name x p) (e::es) [] pos) (NP sp Fw E t):=by
 intro pins s σ H Q I h;refine wpAny_Call_Name_kw (Fp I hg hm ?_ hdb);refine PySem.W.callWith_K (h₀:=X.base) I.ok.mod.kin hk (cN (ha pos pins s σ H _ I h) fun us s1 ⟨vs,H1,I1,r,q⟩=>⟨I1.Nt,?_⟩) he hpl;exact ail F hr hb hd hx I1 r q
structure Mk (K:PySem.W.Frag) (C f:Addr):Prop where
 makes:PySem.W.makesIn K C=true
 init:PySem.W.findIn K (.ref C) "__init__"=some (some (.ref f))
 fn:PySem.W.isFn K (.ref f)=true
 kp:PySem.W.keepIn K (.ref C)=true
theorem Yp {pins:List (Addr×Obj)}{σ:St}{H:Hp}{s:Shared}{Q:VK}{us:List Value}{vs:List V}(M:Mk X.K C f) (F:bK X.prog X.w X.K X.mg X.base CX k f fd ps sp) (hr:iY (k+1) X.A) (hb:Binds X.K fd ps ds) (hd:Vals Fw ds)
  (hx:Passes CX X E) (I:Inv X pins σ H s) (r:Vals vs us)
  (h:∀x dx,H x=none→H dx=none→dx≠x→sp (.ref x::(vs++Fw)) (upd (upd H dx (.own x)) x (.ins C dx [])) (fun v H2=>v= .non∧Q (.ref x) H2) E):
  wpAny (model X.prog X.w) X.A (call (.ref C) us) (EP X pins σ Q) X.xe s:=by
 have hq:=h (s.heap.objs.size+1) s.heap.objs.size (I.hok.fresh (Nat.le_succ _)) (I.hok.fresh (Nat.le_refl _)) (Nat.ne_of_lt (Nat.lt_succ_self _));have I2:=Inv.made (C:=C) I;have r2:Vals (V.ref (s.heap.objs.size+1)::(vs++Fw)) (Value.ref (s.heap.objs.size+1)::(us++ds)):= .cons rfl (r.append hd);have hl:(Value.ref (s.heap.objs.size+1)::us++ds).length=ps.length:=by
  have e:=r2.length;rw[F.len _ _ _ _ hq]at e;exact e.symm
 refine wpAny_call (afr (f:=f) I.Nt M.makes M.init (beq_iff_eq.mp M.fn) (codeAny_mono (F.run _ X.stack _ _ ⟨Value.ref (s.heap.objs.size+1)::us,[]⟩ (Value.ref (s.heap.objs.size+1)::(us++ds)) _ _ E (hr.make C us [])
  (I2.env0.make C us []) (hb _ (Value.ref (s.heap.objs.size+1)::us) I2.Nt hl) r2 hq) fun r s' hq'=>?_))
 cases r with
 |error e=>exact hx pins σ _ _ e s' I2 hq'
 |ok fl=>
  cases fl with
  |ret u=>
   obtain⟨v,H',I3,rv,ev,q3⟩:=I2.after hq';subst ev;exact⟨rv,⟨V.ref (s.heap.objs.size+1),H',I3,rfl,q3⟩⟩
  |next=>exact False.elim hq'
  |brk=>exact False.elim hq'
  |cont=>exact False.elim hq'
theorem vo (M:Mk X.K C f) (F:bK X.prog X.w X.K X.mg X.base CX k f fd ps sp) (hr:iY (k+1) X.A) (hg:Gl X x) (hm:X.mg x=some (.ref C)) (hb:Binds X.K fd ps ds) (hd:Vals Fw ds) (hx:Passes CX X E)
  (ha:PA X (e::es) t) (hdb:(x==("__debug__":Str))=false:=by decide) (he:starEach (e::es) X.env=(false,eval e X.env)::starEach es X.env:=by rfl) (hpl:(backTo pos (starEach es X.env)).any (·.1)=false:=by rfl):
  PE X (.Call (.Name x p) (e::es) [] pos) (adE C sp Fw E t):=by
 intro pins s σ H Q I h;refine wpAny_Call_Name_kw (Fp I hg hm ?_ hdb);refine PySem.W.callWith_K (h₀:=X.base) I.ok.mod.kin M.kp (cN (ha pos pins s σ H _ I h) fun us s1 ⟨vs,H1,I1,r,q⟩=>⟨I1.Nt,?_⟩) he hpl;exact Yp M F hr hb hd hx I1 r q
theorem afs (M:Mk X.K C f) (F:bK X.prog X.w X.K X.mg X.base CX k f fd ps sp) (hr:iY (k+1) X.A) (hg:Gl X x) (hm:X.mg x=some (.ref C)) (hb:Binds X.K fd ps ds) (hd:Vals Fw ds) (hx:Passes CX X E)
  (hdb:(x==("__debug__":Str))=false:=by decide):PE X (.Call (.Name x p) [] [] pos) (adE C sp Fw E pR):=by
 intro pins s σ H Q I h;refine wpAny_Call_Name_kw (Fp I hg hm ?_ hdb);exact PySem.W.callWith_K0 I.Nt M.kp (Yp (us:=[]) M F hr hb hd hx I .nil h)
end
def PK (X:Cx) (kws:List Keyword) (t:TA):Prop:=
 ∀(pos:Pos) (pins:List (Addr×Obj)) (s:Shared) (σ:St) (H:Hp) (Q:List V→Hp→Prop),Inv X pins σ H s→t σ H Q→wpAny (model X.prog X.w) X.A (evalAll ((backToKw pos (keywordEach kws X.env)).map (·.2))) (AP X pins σ Q) X.xe s
section
variable {X:Cx}{CX:QK}{k:Nat}{f C:Addr}{fd:FuncData}{ps ks:List Str}{sp:Sp}{E:XK}{x m:Str}{p pos apos kpos:Pos}{e o:Expr}{es:List Expr}{kws:List Keyword}{te ta:TE}{t tk:TA}{nm:Option Str}
theorem ain:PK X [] pR:=fun _ _ _ _ H Q I h=>wpAny_evalAll_nil ⟨[],H,I, .nil,h⟩
theorem agL (ha:PE X e te) (hr:PK X kws t):PK X (⟨nm,e,kpos⟩::kws) (gB te t):=by
 intro pos pins s σ H Q I h;show wpAny _ _ (evalAll ((do let v←eval e X.env;standAt pos;pure v)::(backToKw pos (keywordEach kws X.env)).map (·.2))) _ _ s;refine wpAny_evalAll_cons (wpAny_bind (cN (ha pins s σ H _ I h) fun u s1 ⟨x,H1,I1,r1,q1⟩=>wpAny_bind (wpAny_standAt (wpAny_pure ?_))));exact cN (hr pos pins s1 σ H1 _ I1 q1) fun us s2 ⟨xs,H2,I2,r2,q2⟩=>⟨x::xs,H2,I2, .cons r1 r2,q2⟩
variable {g:List Value→List Value→List Value}{gV:List V→List V→List V}
end
structure aR (N P:List Str) (sc:Scope):Prop where
 kind:sc.kind= .function
 co:sc.isCoroutine=false
 gen:sc.isGenerator=false
 nd:N.Nodup
 pre:N.take P.length=P
 par:∀x∈P,sc.names.lookup x=some .local∨sc.names.lookup x=some .cell
 aio:∀y∈sc.names,y.2≠ .free
theorem SM {kindOf:Str→Option NameKind}{x:Str}:∀{binds:List (Str×Value)}{m:Str→Option Value},(∀v,(x,v)∉binds)→bindL kindOf binds m x=m x
 |[],_,_=>rfl
 |(n,v)::r,m,h=>by
  unfold bindL;rw[SM fun w hw=>h w (List.mem_cons_of_mem _ hw)]
  split
  ·have:x≠n:=by rintro rfl;exact h v List.mem_cons_self
   simp[this]
  ·rfl
theorem SN {kindOf:Str→Option NameKind}{x:Str}:∀{binds:List (Str×Value)}{m:Str→Option Value},(∀v,(x,v)∉binds)→bindC kindOf binds m x=m x
 |[],_,_=>rfl
 |(n,v)::r,m,h=>by
  unfold bindC;rw[SN fun w hw=>h w (List.mem_cons_of_mem _ hw)]
  split
  ·rfl
  ·have:x≠n:=by rintro rfl;exact h v List.mem_cons_self
   simp[this]
theorem SQ {kindOf:Str→Option NameKind}{x:Str}{v:Value}:∀{P:List Str}{vs:List Value}{i:Nat}{m:Str→Option Value},P.Nodup→P[i]?=some x→vs[i]?=some v→kindOf x=some .local→
  bindL kindOf (P.zip vs) m x=some v
 |[],_,_,_,_,h,_,_=>by simp at h
 |_::_,[],_,_,_,_,h,_=>by simp at h
 |p::P,w::vs,0,m,nd,h1,h2,hk=>by
  simp at h1 h2;subst h1;subst h2
  show bindL kindOf ((p,w)::P.zip vs) m p=_;unfold bindL;rw[SM fun v hv=>(List.nodup_cons.mp nd).1 (List.of_mem_zip hv).1,if_pos hk];simp
 |p::P,w::vs,i+1,m,nd,h1,h2,hk=>by
  show bindL kindOf ((p,w)::P.zip vs) m x=_;unfold bindL;exact SQ (i:=i) (List.nodup_cons.mp nd).2 (by simpa using h1) (by simpa using h2) hk
theorem SX {kindOf:Str→Option NameKind}{x:Str}{v:Value}:∀{P:List Str}{vs:List Value}{i:Nat}{m:Str→Option Value},P.Nodup→P[i]?=some x→vs[i]?=some v→kindOf x≠some .local→
  bindC kindOf (P.zip vs) m x=some v
 |[],_,_,_,_,h,_,_=>by simp at h
 |_::_,[],_,_,_,_,h,_=>by simp at h
 |p::P,w::vs,0,m,nd,h1,h2,hk=>by
  simp at h1 h2;subst h1;subst h2
  show bindC kindOf ((p,w)::P.zip vs) m p=_;unfold bindC;rw[SN fun v hv=>(List.nodup_cons.mp nd).1 (List.of_mem_zip hv).1,if_neg hk];simp
 |p::P,w::vs,i+1,m,nd,h1,h2,hk=>by
  show bindC kindOf ((p,w)::P.zip vs) m x=_;unfold bindC;exact SX (i:=i) (List.nodup_cons.mp nd).2 (by simpa using h1) (by simpa using h2) hk
def start (N:List Str) (vs:List V):St:=vs.map some++List.replicate (N.length-vs.length) none
def Yq (CX:QK) (P:Program) (w:World) (K:PySem.W.Frag) (mg:Str→Option Value) (base:Heap) (N:List Str) (qual:Str) (scope:Scope) (f:Addr) (cd:Value) (A:Around) (outer:List Env) (s:Shared) (H:Hp) (E:XK):Cx where
 prog:=P
 w:=w
 K:=K
 mg:=mg
 base:=base
 A:=A.deeper (envOfC qual scope s.heap.objs.size f cd)
 N:=N
 s_0:=s
 Nr:=H
 env:=envOfC qual scope s.heap.objs.size f cd
 outer:=outer
 stack:=envOfC qual scope s.heap.objs.size f cd::outer
 ex:=[]
 calm:=true
 fn:=fun _=>true
 pn:=[]
 xe:=fun e s'=>wpAny (model P w) (A.deeper (envOfC qual scope s.heap.objs.size f cd)) (leaving (envOfC qual scope s.heap.objs.size f cd) e) (fun _ s''=>CX outer H s E e s'') (fun e' s''=>CX outer H s E e' s'') s'
theorem Yr {sc:Scope}{n:Nat}{x:Str}(h:sc.names.lookup x=some .cell):∃c,(cellsFrom n sc.names []).lookup x=some c:=by
 have q:=PySem.W.cellsFrom_some sc.names n [] (.inl h);exact Option.isSome_iff_exists.mp q
theorem adF {CX:QK}{P:Program}{w:World}{K:PySem.W.Frag}{mg:Str→Option Value}{base:Heap}{N ps:List Str}{qual:Str}{scope:Scope}{f:Addr}{cd:Value}{A:Around}{outer:List Env}{s s1:Shared}{H:Hp}{E:XK}{us:List Value}{vs:List V}
  (S:aR N ps scope) (hd:A.handled=none) (e0:Iw P w K mg base A outer s H) (hl:vs.length=ps.length) (r:Vals vs us)
  (x:InCallC s s.heap.objs.size (bindL (envOfC qual scope s.heap.objs.size f cd).kindOf (ps.zip us) fun _=>none) (cellsFrom (s.heap.objs.size+1) scope.names []) (bindC (envOfC qual scope s.heap.objs.size f cd).kindOf (ps.zip us) fun _=>none) s1):
  Inv (Yq CX P w K mg base N qual scope f cd A outer s H E) [] (start N vs) H s1:=by
 have hpl:ps.length≤N.length:=by have:=congrArg List.length S.pre;rw[List.length_take]at this;omega
 obtain⟨h1,tk,rfl,hk⟩:=x.done;have noA:∀b:Addr,b∉(Yq CX P w K mg base N qual scope f cd A outer s H E).ex:=fun b z=>absurd (show b∈([]:List Addr)from z) (by simp)
 refine⟨⟨e0.mod,S.kind,rfl,rfl,Nat.le_refl _,fun y z c h1 h2=>?_,fun y hy=>?_,fun y c _ h=>?_,fun _=>hd,Around.frames_deeper e0.frames, .inr ⟨rfl,rfl⟩,fun b z=>absurd z (noA b),e0.bs,e0.Wk,fun b _ _=>noA b,fun b z=>absurd z (noA b),e0.Ax,e0.frf⟩,
  rfl,e0.bare,Un.kept hk,⟨_,x.toInCall.ns,fun i y v h1 h2 h3=>?_⟩,fun y c h=>⟨_,x.cell y c h⟩,e0.hok.fresh (Nat.le_refl _),fun y c h=>?_,fun p hp=>absurd (show p∈([]:List (Addr×Obj))from hp) (by simp),e0.hok.kept hk,?_⟩
 ·exact name_of_addr x.apart (PySem.mem_of_lookup h1) (PySem.mem_of_lookup h2)
 ·have hy:scope.names.lookup y=some .cell∨scope.names.lookup y=some .free:=hy
  rcases hy with hy|hy
  ·exact Yr hy
  ·exact absurd rfl (S.aio _ (PySem.mem_of_lookup hy))
 ·exact Nat.le_of_lt (x.above y c (PySem.mem_of_lookup h))
 ·have hi:i<vs.length:=by
   unfold start at h2;by_cases hi:i<vs.length
   ·exact hi
   ·rw[List.getElem?_append_right (by simpa using hi)]at h2
    rw[List.getElem?_replicate]at h2
    split at h2<;>cases h2
  have ha:vs[i]?=some v:=by
   unfold start at h2;rw[List.getElem?_append_left (by simpa using hi),List.getElem?_map]at h2;cases e:vs[i]? with
   |none=>rw[e]at h2;cases h2
   |some a=>rw[e]at h2;cases h2;rfl
  obtain⟨u,hu,rv⟩:=r.get ha;have hp:ps[i]?=some y:=by
   rw[←S.pre,List.getElem?_take_of_lt (by omega)];exact h1
  have ndP:ps.Nodup:=by rw[←S.pre];exact S.nd.sublist (List.take_sublist _ _)
  refine⟨u,rv,?_⟩;rcases S.par y (List.mem_of_getElem? hp)with k|k
  ·exact .inl ⟨k,SQ ndP hp hu k⟩
  ·obtain⟨c,e⟩:=Yr (n:=s.heap.objs.size+1) k
   refine .inr ⟨.inl k,c,e,?_⟩;have q:=x.cell y c e;rw[SX ndP hp hu (by show scope.names.lookup y≠_;rw[k];decide)]at q;exact q
 ·exact e0.hok.fresh (Nat.le_of_lt (x.above y c (PySem.mem_of_lookup h)))
 ·unfold start
  show _=N.length;rw[List.length_append,List.length_map,List.length_replicate];omega
theorem ajG {CX:QK}{P:Program}{w:World}{K:PySem.W.Frag}{mg:Str→Option Value}{base:Heap}{k:Nat}{f:Addr}{name qual:Str}{params:Arguments}{body:List Stmt}{scope:Scope}{dV kV doc pm cdv ct oc:Value}{an od:Option Addr}
  {osl:Array (Option Value)}{N ps:List Str}{sp:Sp}(lk:K.lookup f=some ⟨oc,od, .func (PySem.W.fnOf name qual params body scope dV kV doc pm an cdv ct),osl⟩) (hcd:PySem.W.codeIn K cdv qual=true) (S:aR N ps scope)
  (len:∀vs H Q E,sp vs H Q E→vs.length=ps.length)
  (hbody:∀(A:Around) (outer:List Env) (s:Shared) (H:Hp) (vs:List V) (Q:VK) (E:XK),iY k (A.deeper (envOfC qual scope s.heap.objs.size f cdv))→sp vs H Q E→
   ∃t,Ny (Yq CX P w K mg base N qual scope f cdv A outer s H E) body t∧t {nx:=fun _ H'=>Q .non H',rt:=Q} (start N vs) H):
  bK P w K mg base CX (k+1) f (PySem.W.fnOf name qual params body scope dV kV doc pm an cdv ct) ps sp:=by
 refine⟨len,fun A outer s H args us vs Q E hr e0 hb r hsp=>?_⟩;have hl:=len _ _ _ _ hsp;have KX:K.In s.heap:=e0.mod.kin.keeps fun b o e=>(e0.bs b o e).1
 have lim:s.heap.NoLimit:=e0.mod.nolimit.keeps fun b o e=>(e0.bs b o e).1
 have hkind:∀y∈ps.zip us,scope.names.lookup y.1=some .local∨(scope.names.lookup y.1=some .cell∧((cellsFrom (s.heap.objs.size+1) scope.names []).lookup y.1).isSome=true):=fun⟨n,v⟩ hy=>by
  rcases S.par n (List.of_mem_zip hy).1 with q|q
  ·exact .inl q
  ·exact .inr ⟨q,PySem.W.cellsFrom_some _ _ _ (.inl q)⟩
 refine codeAny_call_function hr.depth (KX _ _ lk) rfl S.co S.gen rfl (PySem.W.codeRec_of KX hcd) (hb _ _ _ _ ?_);refine wpAny_newFunctionEnv_cells S.kind hkind fun env he s1 x=>?_
 subst he;refine⟨lim.keeps x.toInCall.keep,codeAny_func ?_⟩;obtain⟨t,ht,hq⟩:=hbody A outer s H vs Q E (hr.deeper _) hsp;have I:Inv (Yq CX P w K mg base N qual scope f cdv A outer s H E) [] (start N vs) H s1:=adF S hr.hd e0 hl r x;refine wpAny_mono (ht [] s1 (start N vs) H _ I hq) (fun fl s' hs=>?_) fun e s' hs=>hs
 have fin:∀{σ':St}{H':Hp}{v:V}{u:Value},Inv (Yq CX P w K mg base N qual scope f cdv A outer s H E) [] σ' H' s'→RelV v u→Q v H'→CE outer P w H s Q u s':=
  fun{σ' H' v u} J rv q=>⟨v,H',J.os,J.bare,J.base,J.hok,rv,q⟩
 cases fl with
 |ret u=>
  obtain⟨v,σ',H',J,rv,q⟩:=hs;exact fin J rv q
 |next=>
  obtain⟨σ',H',J,q⟩:=hs;exact fin (v:=V.non) (u:=Value.none) J rfl q
 |brk=>
  obtain⟨_,_,_,q⟩:=hs;exact False.elim q
 |cont=>
  obtain⟨_,_,_,q⟩:=hs;exact False.elim q
end L2
namespace L2
open PySem PySem.Spec PyProof.Rows
section
variable {X:Cx}{x:Str}{p pos:Pos}{e:Expr}{es:List Expr}{t:TA}{id T:String}{r:List V→Hp→VK→Prop}
def tCB (r:List V→Hp→VK→Prop) (t:TA):TE:=fun σ H Q=>t σ H fun vs H1=>r vs H1 Q
theorem bH (hc:rW X (.builtin id) r) (hg:Gl X x) (hm:X.mg x=none) (hv:bootBuiltins x=some (.builtin id)) (ha:PA X (e::es) t) (hn:x≠"__name__":=by decide) (hdb:(x==("__debug__":Str))=false:=by decide)
  (he:starEach (e::es) X.env=(false,eval e X.env)::starEach es X.env:=by rfl) (hpl:(backTo pos (starEach es X.env)).any (·.1)=false:=by rfl):PE X (.Call (.Name x p) (e::es) [] pos) (tCB r t):=by
 intro pins s σ H Q I h;refine wpAny_Call_Name_kw (Hq I hg hm hv ?_ hn hdb);exact PyProof.Rows.callWith_builtin1 (cN (ha pos pins s σ H _ I h) fun us s1 ⟨vs,H1,I1,r1,q1⟩=>hc pins s1 σ H1 vs us Q I1 r1 q1) he hpl
theorem Jt (hc:rW X (.type T) r) (hg:Gl X x) (hm:X.mg x=none) (hv:bootBuiltins x=some (.type T)) (ha:PA X (e::es) t) (hn:x≠"__name__":=by decide) (hdb:(x==("__debug__":Str))=false:=by decide)
  (he:starEach (e::es) X.env=(false,eval e X.env)::starEach es X.env:=by rfl) (hpl:(backTo pos (starEach es X.env)).any (·.1)=false:=by rfl):PE X (.Call (.Name x p) (e::es) [] pos) (tCB r t):=by
 intro pins s σ H Q I h;refine wpAny_Call_Name_kw (Hq I hg hm hv ?_ hn hdb);exact PyProof.Rows.callWith_type1 (cN (ha pos pins s σ H _ I h) fun us s1 ⟨vs,H1,I1,r1,q1⟩=>hc pins s1 σ H1 vs us Q I1 r1 q1) he hpl
end
end L2
namespace HT
open PySem PyProof.Rows
section
variable {prog:Program}{w:World}{A:Around}{E:Value→Shared→Prop}{s:Shared}
def Fx (n d:Nat):Option Int→Nat
 |none=>d
 |some v=>if v<0 then(v+(n:Int)).toNat else min v.toNat n
theorem aft (n d:Nat):Fx n d none=d:=rfl
theorem Fy (n d k:Nat):Fx n d (some (k:Int))=min k n:=by
 show(if (k:Int)<0 then((k:Int)+(n:Int)).toNat else min (k:Int).toNat n)=min k n;rw[if_neg (by omega),Int.toNat_natCast]
end
end HT
namespace L2
open PySem PySem.Spec PyProof.Rows
abbrev TO:=St→Hp→(Option Int→Hp→Prop)→Prop
def PO (X:Cx) (e:Option Expr) (t:TO):Prop:=
 ∀(pins:List (Addr×Obj)) (s:Shared) (σ:St) (H:Hp) (Q:Option Int→Hp→Prop),Inv X pins σ H s→t σ H Q→
  wpAny (model X.prog X.w) X.A (evalPart e X.env) (fun u s'=>∃o H',Inv X pins σ H' s'∧IsPart u o∧Q o H') X.xe s
def agM:TO:=fun _ H Q=>Q none H
def adG (t:TE):TO:=fun σ H Q=>t σ H fun x H1=>∃i,x= .int i∧Q (some i) H1
section
variable {X:Cx}{e:Expr}{te:TE}{lo hi:Option Expr}{tl th:TO}{pos p2:Pos}
theorem agN:PO X none agM:=by
 intro pins s σ H Q I h;rw[evalPart_none];exact wpAny_pure ⟨none,H,I, .none,h⟩
theorem xQ (h:PE X e te):PO X (some e) (adG te):=by
 intro pins s σ H Q I hw;rw[evalPart_some];refine cN (h pins s σ H _ I hw) fun u s1 ⟨x,H1,I1,r1,q1⟩=>?_
 obtain⟨i,rfl,q⟩:=q1;obtain⟨t,rfl⟩:=r1;exact⟨some i,H1,I1, .int i t,q⟩
def SlR (X:Cx) (r:V→Option Int→Option Int→Hp→VK→Prop):Prop:=
 ∀(pins:List (Addr×Obj)) (s:Shared) (σ:St) (H:Hp) (x:V) (v vl vu:Value) (lo hi:Option Int) (sl:Addr) (Q:VK),Inv X pins σ H s→RelV x v→s.heap.IsSliceOf sl vl vu .none→IsPart vl lo→IsPart vu hi→r x lo hi H Q→
  ∃T id,typeLookup (.type T) "__getitem__"=pure (some (.builtin id))∧s.TypeIs v T∧wpAny (model X.prog X.w) X.A (getItem v (.ref sl)) (EP X pins σ Q) X.xe s
def tSl (r:V→Option Int→Option Int→Hp→VK→Prop) (te:TE) (tl th:TO):TE:=fun σ H Q=>te σ H fun x H1=>tl σ H1 fun l H2=>th σ H2 fun u H3=>r x l u H3 Q
theorem Hw {r:V→Option Int→Option Int→Hp→VK→Prop}(hr:SlR X r) (he:PE X e te) (hl:PO X lo tl) (hu:PO X hi th):PE X (.Subscript e (.Slice lo hi none p2) pos) (tSl r te tl th):=by
 intro pins s σ H Q I h;refine Subscript_ (cN (he pins s σ H _ I h) fun v s1 ⟨x,H1,I1,r1,q1⟩=>?_);refine wpAny_Slice (cN (hl pins s1 σ H1 _ I1 q1) fun vl s2 ⟨l,H2,I2,pl,q2⟩=>cN (hu pins s2 σ H2 _ I2 q2) fun vu s3 ⟨u,H3,I3,pu,q3⟩=>?_);rw[evalPart_none];refine wpAny_pure ?_;have I4:Inv X pins σ H3 {s3 with heap:=s3.heap.push {cls:= .type "slice",data:= .fields #[vl,vu, .none]}}:=I3.kept (t':=s3.toks) fun b ob q=>Heap.get?_push_of_some _ q
 obtain⟨T,id,hT,ht,hg⟩:=hr pins {s3 with heap:=s3.heap.push {cls:= .type "slice",data:= .fields #[vl,vu, .none]}} σ H3 x v vl vu l u s3.heap.objs.size Q I4 r1 (Heap.IsSliceOf.new ..) pl pu q3;show wpAny (model X.prog X.w) X.A (subscriptTail e (.Slice lo hi none p2) v (.ref s3.heap.objs.size)) (EP X pins σ Q) X.xe {s3 with heap:=s3.heap.push {cls:= .type "slice",data:= .fields #[vl,vu, .none]}};exact tail_any (ops:=[.ref s3.heap.objs.size,v]) ht hT hg (by with_unfolding_all rfl)
def Iz (xs:List V) (lo hi:Option Int):List V:=(xs.drop (HT.Fx xs.length 0 lo)).take (HT.Fx xs.length xs.length hi-HT.Fx xs.length 0 lo)
theorem Zt (xs:List V) (lo hi:Option Int):(Iz xs lo hi).length≤xs.length:=by
 unfold Iz;rw[List.length_take,List.length_drop];omega
end
end L2
namespace L2
open PySem PySem.Spec PyProof.Rows
def Zu (n:Nat) (i:Int):Option Nat:=if 0≤i then(if i<n then some i.toNat else none)else if-(n:Int)≤i then some (i+n).toNat else none
def atI {α:Type}(xs:List α) (i:Int):Option α:=(Zu xs.length i).bind fun j=>xs[j]?
theorem abF {n:Nat}{i:Int}{j:Nat}(h:Zu n i=some j):seqIndex? i n=some j∧j<n∧-(n:Int)≤i∧i<n:=by
 unfold Zu at h;by_cases h0:0≤i
 ·rw[if_pos h0]at h
  by_cases h1:i<n
  ·rw[if_pos h1]at h
   have e:i.toNat=j:=Option.some.inj h;exact⟨by rw[seqIndex_of h0 h1,e],by omega,by omega,h1⟩
  ·rw[if_neg h1]at h;cases h
 ·rw[if_neg h0]at h
  by_cases h1: -(n:Int)≤i
  ·rw[if_pos h1]at h
   have e:(i+n).toNat=j:=Option.some.inj h;exact⟨by rw[seqIndex_neg (by omega) h1,e],by omega,h1,by omega⟩
  ·rw[if_neg h1]at h;cases h
theorem S5 {α:Type}{xs:List α}{i:Int}{v:α}(h:atI xs i=some v):∃j,seqIndex? i xs.length=some j∧xs[j]?=some v∧j<xs.length∧-(xs.length:Int)≤i∧i<xs.length:=by
 unfold atI at h;cases e:Zu xs.length i with
 |none=>rw[e]at h;cases h
 |some j=>
  rw[e]at h;obtain⟨h1,h2,h3,h4⟩:=abF e;exact⟨j,h1,h,h2,h3,h4⟩
theorem S6 {α:Type}{xs:List α}{j:Nat}{v:α}(h:xs[j]?=some v):atI xs (j:Int)=some v:=by
 have hj:j<xs.length:=(List.getElem?_eq_some_iff.mp h).1;have e:Zu xs.length (j:Int)=some j:=by
  unfold Zu;rw[if_pos (by omega),if_pos (by omega)];simp
 unfold atI;rw[e];exact h
def agO (b:Expr):Prop:=∀o i,subscripted b false o i=operate [o,i] (getItem o i)
def Wl (X:Cx) (r:R2):Prop:=
 ∀(value slice:Expr) (pins:List (Addr×Obj)) (s:Shared) (σ:St) (H:Hp) (x y:V) (v u:Value) (Q:VK),Inv X pins σ H s→RelV x v→RelV y u→r x y H Q→
  subscripted slice false v u=operate [v,u] (getItem v u)→wpAny (model X.prog X.w) X.A (subscriptTail value slice v u) (EP X pins σ Q) X.xe s
def MtR (X:Cx) (id:String) (r:V→List V→Hp→VK→Prop):Prop:=
 ∀(pins:List (Addr×Obj)) (s:Shared) (σ:St) (H:Hp) (x:V) (xs:List V) (v:Value) (us:List Value) (Q:VK),Inv X pins σ H s→RelV x v→Vals xs us→r x xs H Q→
  wpAny (model X.prog X.w) X.A (call (.builtin id) (v::us)) (EP X pins σ Q) X.xe s
section
variable {X:Cx}{a b:Expr}{ta tb:TE}{pos:Pos}
theorem Wl.or {r r':R2}(h:Wl X r) (h':Wl X r'):Wl X (fun x y H Q=>r x y H Q∨r' x y H Q):=by
 intro value slice pins s σ H x y v u Q I rx ry q hs;rcases q with q|q
 ·exact h value slice pins s σ H x y v u Q I rx ry q hs
 ·exact h' value slice pins s σ H x y v u Q I rx ry q hs
theorem bG {r:R2}(hr:Wl X r) (ha:PE X a ta) (hb:PE X b tb) (hs:agO b):PE X (.Subscript a b pos) (rz r ta tb):=by
 intro pins s σ H Q I h;exact Subscript_ (agC ha hb I h fun v u s2 x y H2 I2 rx ry q=>hr a b pins s2 σ H2 x y v u Q I2 rx ry q (hs _ _))
def ajk (K:PySem.W.Frag):R2:=fun x y H Q=>∃p xs i v,x= .ref p∧y= .int i∧dR K H p xs∧atI xs i=some v∧Q v H
def ajl (K:PySem.W.Frag):R2:=fun x y H Q=>∃p xs i v,x= .ref p∧y= .int i∧Sv K H p xs∧atI xs i=some v∧Q v H
def ajm:R2:=fun x y H Q=>∃z i c,x= .str z∧y= .int i∧z.length≤sizeLine∧atI z.cps.toList i=some c∧Q (.str ⟨#[c]⟩) H
theorem agP:Wl X (ajk X.K):=by
 intro value slice pins s σ H x y v u Q I rx ry h hs;obtain⟨p,xs,i,z,rfl,rfl,hq,he,q⟩:=h;cases rx;obtain⟨t,rfl⟩:=ry;obtain⟨its,r,pl,hz⟩:=I.list hq;obtain⟨j,h1,h2,h3,h4,h5⟩:=S5 he;obtain⟨w,ew,Ju⟩:=r.get h2;have hl:=r.length;have hn:=KJ;have fin:EP X pins σ Q w s:=⟨z,H,I,Ju,q⟩;by_cases h0:0≤i
 ·have hj:i.toNat=j:=by
   rw[seqIndex_of h0 h5]at h1;exact Option.some.inj h1
  exact item_listR pl.isList h0 (by omega) (by rw[hj];simpa using ew) fin hs
 ·have hj:(i+(its.toArray.size:Int)).toNat=j:=by
   rw[seqIndex_neg (by omega) h4]at h1;rw[List.size_toArray,←hl];exact Option.some.inj h1
  exact subscriptTail_builtinR (x:=w) pl.isList.typeIs slot_list_getitem.lookup
   (wpAny_getItem_list_neg (Q:=fun r s'=>r=w∧EP X pins σ Q r s') pl.isList (by omega) (by rw[List.size_toArray]<;>omega) (by omega) (by rw[hj];simpa using ew) ⟨rfl,fin⟩) hs
theorem aip:Wl X (ajl X.K):=by
 intro value slice pins s σ H x y v u Q I rx ry h hs;obtain⟨p,xs,i,z,rfl,rfl,hq,he,q⟩:=h;cases rx;obtain⟨t,rfl⟩:=ry;obtain⟨its,r,pl,hz⟩:=I.tuple hq;obtain⟨j,h1,h2,h3,h4,h5⟩:=S5 he;obtain⟨w,ew,Ju⟩:=r.get h2;have hl:=r.length;have hn:=KJ;have fin:EP X pins σ Q w s:=⟨z,H,I,Ju,q⟩;exact subscriptTail_builtinR (x:=w) pl.typeIs slot_tuple_getitem.lookup
  (getItem_tuple (j:=j) (Q:=fun r s'=>r=w∧EP X pins σ Q r s') pl (by omega) (by omega) (by rw[List.size_toArray,←hl];exact h1) (by simpa using ew) ⟨rfl,fin⟩) hs
theorem aiq:Wl X ajm:=by
 intro value slice pins s σ H x y v u Q I rx ry h hs;obtain⟨z,i,c,rfl,rfl,hz,he,q⟩:=h;obtain⟨t,rfl⟩:=rx;obtain⟨t',rfl⟩:=ry;obtain⟨j,h1,h2,h3,h4,h5⟩:=S5 he;have hl:z.cps.toList.length=z.length:=by simp[Str.length]
 rw[hl]at h1 h4 h5;have hn:=KJ;exact tail_any (typeIs_str s z t) slot_str_getitem.lookup (getItem_str (c:=c) (by
  have e1:decide (i< -(2^63:Int))=false:=decide_eq_false (by omega);have e2:decide (i≥2^63)=false:=decide_eq_false (by omega);rw[e1,e2,Bool.or_false]) (by rw[h1];simpa using h2) ⟨.str ⟨#[c]⟩,H,I.tok _,⟨_,rfl⟩,q⟩) hs
def rIx (K:PySem.W.Frag):R2:=fun x y H Q=>ajk K x y H Q∨ajl K x y H Q∨ajm x y H Q
theorem bw:Wl X (rIx X.K):=agP.or (aip.or aiq)
theorem abG (its:List Value) (n j:Nat) (u:Value):Obj.mapSeq (·.setIfInBounds j u) {cls:= .type "list",data:= .seq its.toArray n}={cls:= .type "list",data:= .seq (its.set j u).toArray n}:=by
 simp[Obj.mapSeq]
theorem Inv.lst {pins:List (Addr×Obj)}{σ:St}{H:Hp}{s:Shared}{p:Addr}{xs:List V}(I:Inv X pins σ H s) (h:H p=some (.lst xs)):
  ∃(its:List Value) (n:Nat),Vals xs its∧s.heap.get? p=some {cls:= .type "list",data:= .seq its.toArray n}∧xs.length≤sizeLine:=by
 obtain⟨z,its,n,r,e⟩:=I.hok p _ h;exact⟨its,n,r,e,z⟩
theorem Inv.air {pins:List (Addr×Obj)}{σ:St}{H:Hp}{s:Shared}{p:Addr}{xs ys:List V}{its its':List Value}{n n':Nat}{f:Obj→Obj}(I:Inv X pins σ H s) (h:H p=some (.lst xs))
  (ho:s.heap.get? p=some {cls:= .type "list",data:= .seq its.toArray n}) (hf:f {cls:= .type "list",data:= .seq its.toArray n}={cls:= .type "list",data:= .seq its'.toArray n'}) (r:Vals ys its') (hz:ys.length≤sizeLine) (t:Nat):
  Inv X pins σ (upd H p (.lst ys)) {s with heap:=s.heap.update p f,toks:=t}:=by
 have e:(s.heap.update p f).get? p=some {cls:= .type "list",data:= .seq its'.toArray n'}:=by
  rw[Heap.get?_update_self f ho (by rw[hf]<;>rfl),hf]
 refine I.write (x:=p) (e:=p) (by rw[h];trivial) (.inl rfl) (fun b u hb q=>(Heap.get?_update_other _ _ (Ne.symm hb)).trans q) ⟨_,e⟩ ?_;exact⟨hz,its',n',r,e⟩
def adH:V→V→V→Hp→(Hp→Prop)→Prop:=fun o i v H Q=>∃p xs k j,o= .ref p∧i= .int k∧H p=some (.lst xs)∧Zu xs.length k=some j∧Q (upd H p (.lst (xs.set j v)))
theorem set_list:ajh X adH:=by
 intro pins s σ H o i v ov iv u Q I ro ri rv h;obtain⟨p,xs,k,j,rfl,rfl,hp,hj,q⟩:=h;cases ro;obtain⟨t,rfl⟩:=ri;obtain⟨its,n,r,ho,hz⟩:=I.lst hp;obtain⟨h1,h2,h3,h4⟩:=abF hj;have hl:=r.length;have hn:=KJ;have I':Inv X pins σ (upd H p (.lst (xs.set j v))) {s with heap:=s.heap.update p (Obj.mapSeq (·.setIfInBounds j u))}:=
  I.air hp ho (abG its n j u) (r.set rv j) (by rw[List.length_set];exact hz) s.toks
 by_cases h0:0≤k
 ·have hk:k.toNat=j:=by
   rw[seqIndex_of h0 h4]at h1;exact Option.some.inj h1
  exact PySem.W.ki_setAt ho h0 (by omega) (by rw[List.size_toArray,←hl];exact h4) (by rw[hk];exact⟨_,I',q⟩)
 ·have hk:(k+(its.toArray.size:Int)).toNat=j:=by
   rw[seqIndex_neg (by omega) h3]at h1;rw[List.size_toArray,←hl];exact Option.some.inj h1
  exact PySem.W.ki_setBack ho (by omega) (by rw[List.size_toArray,←hl];exact h3) (by omega) (by rw[hk];exact⟨_,I',q⟩)
theorem Wm (lo hi:Option Int) (n:Nat):(sliceBounds lo hi none n).1=((HT.Fx n 0 lo:Nat):Int)∧(sliceBounds lo hi none n).2.1=((HT.Fx n n hi:Nat):Int)∧(sliceBounds lo hi none n).2.2=1:=by
 refine⟨?_,?_,rfl⟩
 ·cases lo with
  |none=>simp[sliceBounds,HT.Fx]
  |some i=>
   simp only[sliceBounds,HT.Fx,Option.getD_none,show(1:Int)>0 by decide,if_true];by_cases h:i<0
   ·simp only[h,if_true]<;>omega
   ·simp only[h,if_false]<;>omega
 ·cases hi with
  |none=>simp[sliceBounds,HT.Fx]
  |some i=>
   simp only[sliceBounds,HT.Fx,Option.getD_none,show(1:Int)>0 by decide,if_true];by_cases h:i<0
   ·simp only[h,if_true]<;>omega
   ·simp only[h,if_false]<;>omega
theorem S7 (its:List Value) (lo hi:Option Int):slicePick its.toArray lo hi none=((its.drop (HT.Fx its.length 0 lo)).take (HT.Fx its.length its.length hi-HT.Fx its.length 0 lo)).toArray:=by
 obtain⟨h1,h2,h3⟩:=Wm lo hi its.toArray.size;unfold slicePick;rw[h1,h2,h3];simp only[sliceRange_one,pick_run,List.size_toArray]<;>rfl
def ajn (K:PySem.W.Frag):V→Option Int→Option Int→Hp→VK→Prop:=fun x lo hi H Q=>∃a xs,x= .ref a∧dR K H a xs∧∀p,H p=none→Q (.ref p) (upd H p (.lst (Iz xs lo hi)))
theorem KR:SlR X (ajn X.K):=by
 intro pins s σ H x v vl vu lo hi sl Q I rx hs pl pu h;obtain⟨a,xs,rfl,hx,q⟩:=h;cases rx;obtain⟨its,r,ht,hz⟩:=I.list hx;have hlen:=r.length;refine⟨"list",_,slot_list_getitem.lookup,ht.isList.typeIs,?_⟩;refine wpAny_getItem_list_slice ht.isList hs pl pu .none (by simp) ?_ (by rw[List.size_toArray]<;>omega);rw[S7,←hlen];refine⟨.ref s.heap.objs.size,_,I.laid (t':=s.toks) (o:= .lst (Iz xs lo hi)) (fun b ob q=>Heap.get?_push_of_some _ q) (Nat.le_refl _) ?_,rfl,q _ (I.hok.fresh (Nat.le_refl _))⟩;exact⟨Nat.le_trans (Zt xs lo hi) hz,_,0,(r.drop (HT.Fx xs.length 0 lo)).take (HT.Fx xs.length xs.length hi-HT.Fx xs.length 0 lo),Heap.get?_push_size _ rfl⟩
def tyV (K:PySem.W.Frag) (T:String) (x:V) (H:Hp):Prop:=match x with
 | .str _=>T="str"
 | .int _=>T="int"
 | .ref p=>(T="list"∧∃xs,dR K H p xs)∨(T="tuple"∧∃o,K.lookup p=some o∧o.cls= .type "tuple"∧o.dict=none)∨
   (T="dict"∧((∃kvs,H p=some (.dK kvs))∨∃kvs,H p=some (.dT kvs)))∨(T="set"∧∃S n,H p=some (.set S n))
 |_=>False
theorem aeU {pins:List (Addr×Obj)}{σ:St}{H:Hp}{s:Shared}{T:String}{x:V}{v:Value}(I:Inv X pins σ H s) (r:RelV x v) (ty:tyV X.K T x H):
  s.TypeIs v T∧∀a,v= .ref a→∃ob,s.heap.get? a=some ob∧ob.dict=none:=by
 cases x with
 |str z=>
  obtain⟨t,rfl⟩:=r;cases(show T="str" from ty);exact⟨typeIs_str s z t,fun _ e=>nomatch e⟩
 |int i=>
  obtain⟨t,rfl⟩:=r;cases(show T="int" from ty);exact⟨typeIs_int s i t,fun _ e=>nomatch e⟩
 |ref p=>
  cases r;rcases ty with⟨rfl,xs,hq⟩|⟨rfl,o,hk,hc,hd⟩|⟨rfl,hk⟩|⟨rfl,S,n,hk⟩
  ·obtain⟨its,_,pl,_⟩:=I.list hq
   refine⟨pl.isList.typeIs,fun a e=>?_⟩;cases e;obtain⟨o,n,e,c,hd,_⟩:=pl;exact⟨o,e,hd⟩
  ·refine⟨⟨o,I.Nt p o hk,hc⟩,fun a e=>?_⟩
   cases e;exact⟨o,I.Nt _ o hk,hd⟩
  ·have z:∃o,s.heap.get? p=some o∧o.ExactDict:=by
    rcases hk with⟨kvs,hk⟩|⟨kvs,hk⟩
    ·obtain⟨_,_,_,_,o,_,_,e,ex,_⟩:=I.hok p _ hk
     exact⟨o,e,ex⟩
    ·obtain⟨_,_,_,_,o,_,_,e,ex,_⟩:=I.hok p _ hk
     exact⟨o,e,ex⟩
   obtain⟨o,e,ex⟩:=z;refine⟨⟨o,e,ex.1⟩,fun a e2=>?_⟩;cases e2;exact⟨o,e,ex.2.1⟩
  ·obtain⟨o,_,_,_,e,ex,_⟩:=I.hok p _ hk
   refine⟨⟨o,e,ex.1⟩,fun a e2=>?_⟩;cases e2;exact⟨o,e,ex.2.1⟩
 |_=>exact False.elim ty
def aj8 (K:PySem.W.Frag) (T:String) (r:V→List V→Hp→VK→Prop) (to:TE):TE:=fun σ H Q=>to σ H fun x H1=>tyV K T x H1∧r x [] H1 Q
def tBM (K:PySem.W.Frag) (T:String) (r:V→List V→Hp→VK→Prop) (to:TE) (t:TA):TE:=fun σ H Q=>to σ H fun x H1=>tyV K T x H1∧t σ H1 fun xs H2=>r x xs H2 Q
variable {o e:Expr}{es:List Expr}{to:TE}{t:TA}{name:Str}{apos cpos:Pos}{T id:String}{r:V→List V→Hp→VK→Prop}
theorem ais (pa:PlainAttrs T) (slot:Slot T name id) (hty:typeOf (.builtin id)=pure (.type "method_descriptor")) (hm:MtR X id r) (ho:PE X o to)
  (hbase:attributeBase o name X.env (eval o X.env)=eval o X.env:=by rfl) (hline:(apos.endLine==cpos.line)=true:=by rfl):PE X (.Call (.Attribute o name apos) [] [] cpos) (aj8 X.K T r to):=by
 intro pins s σ H Q I h;refine wpAny_Call_method0_late hbase hline (cN (ho pins s σ H _ I h) fun v s1 ⟨x,H1,I1,r1,ty,q1⟩=>?_);obtain⟨h1,h2⟩:=aeU I1 r1 ty;exact⟨T,id,pa,slot,hty,h1,h2,Calls.callWith_builtin rfl (PySem.evalArgs_none (hm pins s1 σ H1 x [] v [] Q I1 r1 .nil q1))⟩
theorem rA (pa:PlainAttrs T) (slot:Slot T name id) (hty:typeOf (.builtin id)=pure (.type "method_descriptor")) (hm:MtR X id r) (ho:PE X o to) (ha:PA X (e::es) t)
  (hbase:attributeBase o name X.env (eval o X.env)=eval o X.env:=by rfl)
  (hfew:((backTo cpos (starEach (e::es) X.env)).all (fun x=> !x.1)&&(backToKw cpos (keywordEach [] X.env)).all (fun x=>x.1.isSome)
   &&decide ((e::es).length+([]:List Keyword).length+(if ([]:List Keyword).isEmpty then 0 else 1)<30))=true:=by rfl)
  (hline:(apos.endLine==cpos.line)=true:=by rfl) (hs:starEach (e::es) X.env=(false,eval e X.env)::starEach es X.env:=by rfl) (hplain:(backTo cpos (starEach es X.env)).any (·.1)=false:=by rfl):
  PE X (.Call (.Attribute o name apos) (e::es) [] cpos) (tBM X.K T r to t):=by
 intro pins s σ H Q I h;refine wpAny_Call_method_late hbase hfew hline rfl (cN (ho pins s σ H _ I h) fun v s1 ⟨x,H1,I1,r1,ty,q1⟩=>?_);obtain⟨h1,h2⟩:=aeU I1 r1 ty;refine⟨T,id,pa,slot,hty,h1,h2,?_⟩;have hA:=ha cpos pins s1 σ H1 _ I1 q1;rw[hs]at hA⊢;refine Calls.callWith_builtin (by show(false||(backTo cpos (starEach es X.env)).any (·.1))=false;rw[hplain]<;>rfl) (Calls.evalArgs_plain ?_);exact cN hA fun us s2 ⟨vs,H2,I2,r2,q2⟩=>hm pins s2 σ H2 x vs v us Q I2 r1 r2 q2
end
end L2
namespace L2
open PySem PySem.Spec PyProof.Rows
def MtM (X:Cx) (id:String) (r:V→List V→Hp→VK→Prop):Prop:=
 ∀(pins:List (Addr×Obj)) (s:Shared) (σ:St) (H:Hp) (x:V) (xs:List V) (v:Value) (us:List Value) (Q:VK),Inv X pins σ H s→RelV x v→Vals xs us→r x xs H Q→
  wpAny (model X.prog X.w) X.A (call (.builtin id) (v::us)) (EP X pins σ Q) X.xe s
theorem Vals.one:∀{x:V}{us:List Value},Vals [x] us→∃u,us=[u]∧RelV x u
 |_,_, .cons r .nil=>⟨_,rfl,r⟩
theorem Vals.two:∀{x y:V}{us:List Value},Vals [x,y] us→∃u v,us=[u,v]∧RelV x u∧RelV y v
 |_,_,_, .cons r (.cons q .nil)=>⟨_,_,rfl,r,q⟩
theorem Vals.zero:∀{us:List Value},Vals [] us→us=[]
 |_, .nil=>rfl
theorem Vals.dropLast {xs:List V}{us:List Value}(h:Vals xs us):Vals xs.dropLast us.dropLast:=by
 induction h with
 |nil=>exact .nil
 |cons r t ih=>
  cases t with
  |nil=>exact .nil
  |cons q t'=>exact .cons r ih
theorem abH {α:Type}(l:List α):l.eraseIdx (l.length-1)=l.dropLast:=by
 induction l with
 |nil=>rfl
 |cons a r ih=>
  cases r with
  |nil=>rfl
  |cons b r=>
   have e:(a::b::r).length-1=((b::r).length-1)+1:=by
    have h1:(a::b::r).length=r.length+2:=rfl;have h2:(b::r).length=r.length+1:=rfl;omega
   rw[e,List.eraseIdx_cons_succ,ih];all_goals rfl
section
variable {X:Cx}{pins:List (Addr×Obj)}{σ:St}{H:Hp}{s:Shared}{l b:Addr}{xs ys zs:List V}
theorem Inv.S8 {its its':List Value}{n:Nat}{f:Array Value→Array Value}{t':Nat}(I:Inv X pins σ H s) (hH:H l=some (.lst xs))
  (e:s.heap.get? l=some {cls:= .type "list",data:= .seq its.toArray n}) (hf:f its.toArray=its'.toArray) (hv:Vals ys its') (hz:ys.length≤sizeLine):
  Inv X pins σ (upd H l (.lst ys)) {s with heap:=s.heap.update l (Obj.mapSeq f),toks:=t'}:=by
 have q:=PySem.IsL.update e f;rw[hf]at q;refine I.write (x:=l) (e:=l) (by rw[hH];exact trivial) (.inl rfl) (fun b' u hb hu=>(Heap.get?_update_other s.heap (Obj.mapSeq f) (Ne.symm hb)).trans hu) ⟨_,q⟩ ?_;exact⟨hz,its',_,hv,q⟩
theorem Inv.agQ {its:List Value}{t':Nat}(I:Inv X pins σ H s) (hv:Vals ys its) (hz:ys.length≤sizeLine):
  Inv X pins σ (upd H s.heap.objs.size (.lst ys)) {s with heap:=s.heap.push {cls:= .type "list",data:= .seq its.toArray},toks:=t'}:=
 I.laid (fun _ _ q=>Heap.get?_push_of_some _ q) (Nat.le_refl _) ⟨hz,its,0,hv,Heap.get?_push_size _ rfl⟩
theorem Inv.fresh (I:Inv X pins σ H s):H s.heap.objs.size=none:=I.hok.fresh (Nat.le_refl _)
theorem Inv.Qj (I:Inv X pins σ H s) (hH:H l=some (.lst xs)):xs.length≤sizeLine∧∃(its:List Value) (n:Nat),Vals xs its∧xs.length=its.length∧s.heap.get? l=some {cls:= .type "list",data:= .seq its.toArray n}:=by
 obtain⟨z,its,n,r,e⟩:=I.hok l _ hH;exact⟨z,its,n,r,r.length,e⟩
theorem afu {n:Nat}(h:n≤sizeLine):Builtin.List.listTooLong n=false:=by
 unfold Builtin.List.listTooLong;exact decide_eq_false (by omega)
end
section
variable {X:Cx}
def KY:V→List V→Hp→VK→Prop:=fun x vs H Q=>∃l xs y,x= .ref l∧vs=[y]∧H l=some (.lst xs)∧xs.length<sizeLine∧Q .non (upd H l (.lst (xs++[y])))
theorem fW:MtM X "list.append" KY:=by
 intro pins s σ H x vs v us Q I rx rv h;obtain⟨l,xs,y,rfl,rfl,hH,hz,q⟩:=h;cases rx;obtain⟨u,rfl,ru⟩:=rv.one;obtain⟨z,its,n,r,hl,e⟩:=I.Qj hH;refine call_meets F.slot_list_append ⟨_,e,rfl⟩ F.entry_list_append (F.args_list_append_2 _ _) (PySem.list_append l its.toArray n u (by rw[List.size_toArray];omega)) ⟨e,?_⟩;refine⟨.non,_,I.S8 (its':=its++[u]) hH e (by simp) (r.append (.cons ru .nil)) ?_,rfl,q⟩;rw[List.length_append,List.length_singleton];omega
def S9:V→List V→Hp→VK→Prop:=fun x vs H Q=>∃l b xs zs,x= .ref l∧vs=[.ref b]∧H l=some (.lst xs)∧H b=some (.lst zs)∧xs.length+zs.length≤sizeLine∧Q .non (upd H l (.lst (xs++zs)))
theorem Tc:MtM X "list.extend" S9:=by
 intro pins s σ H x vs v us Q I rx rv h;obtain⟨l,b,xs,zs,rfl,rfl,hH,hB,hz,q⟩:=h;cases rx;obtain⟨u,rfl,ru⟩:=rv.one;cases ru;obtain⟨z,its,n,r,hl,e⟩:=I.Qj hH;obtain⟨z2,its2,n2,r2,hl2,e2⟩:=I.Qj hB;have hsz:its.toArray.size+its2.toArray.size≤sizeLine:=by rw[List.size_toArray,List.size_toArray];omega
 have ajH:¬(!its.toArray.isEmpty&&Builtin.List.listTooLong (its.toArray.size+its2.toArray.size))=true:=by
  rw[afu hsz,Bool.and_false];exact Bool.false_ne_true
 refine call_meets F.slot_list_extend ⟨_,e,rfl⟩ F.entry_list_extend (F.args_list_extend_2 _ _)
  (AutoSeq1.list_extend_list_list_0 l its.toArray n b its2.toArray n2 ajH (by rw[List.size_toArray];omega) (by omega)) ⟨e,e2,?_⟩
 refine⟨.non,_,I.S8 (its':=its++its2) hH e (by simp) (r.append r2) ?_,rfl,q⟩;rw[List.length_append];omega
def aj9:V→List V→Hp→VK→Prop:=fun x vs H Q=>∃l xs y,x= .ref l∧vs=[]∧H l=some (.lst xs)∧xs[xs.length-1]?=some y∧Q y (upd H l (.lst xs.dropLast))
theorem ait:MtM X "list.pop" aj9:=by
 intro pins s σ H x vs v us Q I rx rv h;obtain⟨l,xs,y,rfl,rfl,hH,hy,q⟩:=h;cases rx;have hus:=rv.zero;subst hus;obtain⟨z,its,n,r,hl,e⟩:=I.Qj hH;obtain⟨u,hu,ru⟩:=r.get hy;have hy':its.toArray[its.toArray.size-1]?=some u:=by
  show its.toArray[its.length-1]?=some u;rw[←Array.getElem?_toList,←hl];exact hu
 refine call_meets F.slot_list_pop ⟨_,e,rfl⟩ F.entry_list_pop (F.args_list_pop_1 _) (MeetsSeq.list_pop_last l its.toArray n u hy' (by rw[List.size_toArray];omega)) ⟨e,?_⟩;refine⟨y,_,I.S8 (its':=its.dropLast) hH e ?_ r.dropLast ?_,ru,q⟩
 ·show its.toArray.eraseIdxIfInBounds (its.toArray.size-1)=its.dropLast.toArray
  rw[List.size_toArray,List.eraseIdxIfInBounds_toArray,abH]
 ·rw[List.length_dropLast]
  omega
def agR:R2:=fun x y H Q=>∃l b xs zs,x= .ref l∧y= .ref b∧H l=some (.lst xs)∧H b=some (.lst zs)∧xs.length+zs.length≤sizeLine∧∀p,H p=none→Q (.ref p) (upd H p (.lst (xs++zs)))
theorem KZ:wF X (binaryOp .Add) agR:=by
 intro pins s σ H x y v u Q I rx ry h;obtain⟨l,b,xs,zs,rfl,rfl,hH,hB,hz,q⟩:=h;cases rx;cases ry;obtain⟨z,its,n,r,hl,e⟩:=I.Qj hH;obtain⟨z2,its2,n2,r2,hl2,e2⟩:=I.Qj hB;refine PySem.P.add_list e e2 ?_ (by rw[List.size_toArray,List.size_toArray];omega);have ea:its.toArray++its2.toArray=(its++its2).toArray:=by simp
 rw[ea];exact⟨.ref _,_,I.agQ (t':=s.toks) (r.append r2) (by rw[List.length_append];omega),rfl,q _ I.fresh⟩
end
end L2
namespace L2
open PySem PySem.Spec PyProof.Rows
theorem Vals.ints:∀{ns:List Int}{us:List Value},Vals (ns.map V.int) us→IntsAre us ns
 |[],us,h=>by
  rw[List.map_nil]at h;cases h;exact IntsAre.nil
 |n::ns,us,h=>by
  rw[List.map_cons]at h;cases h with
  |cons r t=>
   obtain⟨k,rfl⟩:=r;exact IntsAre.cons n k (Vals.ints t)
theorem zP:∀{us:List Value}{ns:List Int},IntsAre us ns→Vals (ns.map V.int) us
 |_,_, .nil=>by rw[List.map_nil];exact Paired.nil
 |_,_, .cons n t h=>by rw[List.map_cons];exact Paired.cons (show RelV (V.int n) (Value.int n t)from⟨t,rfl⟩) (zP h)
theorem Vals.bls:∀{bs:List Bool}{us:List Value},Vals (bs.map V.bl) us→us=bs.map Value.bool
 |[],us,h=>by
  rw[List.map_nil]at h;cases h;rfl
 |b::bs,us,h=>by
  rw[List.map_cons]at h;cases h with
  |cons r t=>
   cases r;rw[Vals.bls t,List.map_cons]
theorem Vals.IK {a:Addr}{us:List Value}(r:Vals [V.ref a] us):us=[Value.ref a]:=by
 cases r with
 |cons r t=>
  cases t;cases r;rfl
section
variable {prog:Program}{w:World}{A:Around}{E:Value→Shared→Prop}{s:Shared}{l:Addr}{its:List Value}{ns:List Int}{Q:Value→Shared→Prop}
theorem agS (hh:A.handled=none) (hl:s.heap.IsList l its.toArray) (hi:IntsAre its ns)
  (h:∀h' tk t',(∀b o,s.heap.get? b=some o→h'.get? b=some o)→Q (.int ns.sum t') {s with heap:=h',toks:=tk}):wpAny (model prog w) A (call (.builtin "sum") [.ref l]) Q E s:=by
 obtain⟨xs,e⟩:=hi.allInts.items;have hn:numsOf (intItems xs).toList=ns:=by rw[←e];exact hi.numsOf
 rw[nums_intItems]at hn;rw[e]at hl;refine PySem.sum_intListG hh hl fun h' tk t' hk=>?_
 have:=h h' tk t' hk;rw[preSum_eq,List.take_of_length_le (by simp),hn];exact this
theorem agT (hh:A.handled=none) (hl:s.heap.IsList l its.toArray) (hi:IntsAre its ns) (hne:0<ns.length)
  (h:∀h' tk M t',(∀b o,s.heap.get? b=some o→h'.get? b=some o)→M∈ns→(∀a,a∈ns→M≤a)→Q (.int M t') {s with heap:=h',toks:=tk}):wpAny (model prog w) A (call (.builtin "min") [.ref l]) Q E s:=by
 obtain⟨xs,e⟩:=hi.allInts.items;have hn:numsOf (intItems xs).toList=ns:=by rw[←e];exact hi.numsOf
 rw[nums_intItems]at hn;subst hn;rw[e]at hl;have hsz:0<xs.size:=by simpa using hne
 refine PySem.min_intList hh hl hsz fun v h' tk hv hk=>?_
 obtain⟨t,rfl⟩:=intItems_at hv;obtain⟨h1,h2⟩:=argBest_lt (numAt xs) (xs.size-1);refine h h' tk _ t hk ?_ fun a ha=>?_
 ·rw[numAt_eq];exact PySem.getD_mem (by rw[List.length_map,Array.length_toList];omega)
 ·obtain⟨j,hj,rfl⟩:=mem_getD ha
  rw[List.length_map,Array.length_toList]at hj;rw[←numAt_eq];exact h2 j (by omega)
end
section
variable {X:Cx}
def ajo (K:PySem.W.Frag):List V→Hp→VK→Prop:=fun vs H Q=>∃(a:Addr) (ns:List Int),vs=[V.ref a]∧dR K H a (ns.map V.int)∧Q (.int ns.sum) H
def akb (K:PySem.W.Frag):List V→Hp→VK→Prop:=fun vs H Q=>∃(a:Addr) (ns:List Int),vs=[V.ref a]∧dR K H a (ns.map V.int)∧0<ns.length∧∀m,m∈ns→(∀y,y∈ns→m≤y)→Q (.int m) H
theorem aiu (hc:X.calm=true):rW X (.builtin "sum") (ajo X.K):=by
 intro pins s σ H vs us Q I r h;obtain⟨a,ns,rfl,hs,q⟩:=h;obtain⟨its,rv,hl,_⟩:=I.list hs;rw[Vals.IK r];exact agS (I.ok.hd hc) hl.isList rv.ints fun h' tk t' hk=>⟨.int _,H,I.kept hk,⟨_,rfl⟩,q⟩
theorem aiv (hc:X.calm=true):rW X (.builtin "min") (akb X.K):=by
 intro pins s σ H vs us Q I r h;obtain⟨a,ns,rfl,hs,hne,q⟩:=h;obtain⟨its,rv,hl,_⟩:=I.list hs;rw[Vals.IK r];exact agT (I.ok.hd hc) hl.isList rv.ints hne fun h' tk m t' hk h1 h2=>⟨.int _,H,I.kept hk,⟨_,rfl⟩,q m h1 h2⟩
def agU (K:PySem.W.Frag):List V→Hp→VK→Prop:=fun vs H Q=>∃(a:Addr) (ns:List Int),vs=[V.ref a]∧dR K H a (ns.map V.int)∧ns.length<64∧
 ∀(ns':List Int) (p:Addr),ns'.Perm ns→ns'.Pairwise (·≤·)→H p=none→Q (.ref p) (upd H p (.lst (ns'.map V.int)))
theorem K4 {n:Nat}(h:n<64):n≤sizeLine:=by rw[sizeLine_eq];omega
theorem Td:rW X (.builtin "sorted") (agU X.K):=by
 intro pins s σ H vs us Q I r h;obtain⟨a,ns,rfl,hs,h64,q⟩:=h;obtain⟨its,rv,hl,_⟩:=I.list hs;rw[Vals.IK r];have hi:=rv.ints;refine PyProof.Rows.sorted_ints hl.isList hi (by rw[hi.length];exact h64) fun out ns' h1 h2 h3=>?_
 obtain⟨ep,he'⟩:=PyProof.Rows.sortedAll_at s.heap its out;have hlen:(ns'.map V.int).length≤sizeLine:=by rw[List.length_map,h2.length_eq];exact K4 h64
 exact⟨.ref _,upd H (s.heap.objs.size+1) (.lst (ns'.map V.int)),I.laid (t':=s.toks) (fun _ _=>PyProof.Rows.sortedAll_old) (Nat.le_succ _) ⟨hlen,out.toList,ep,zP h1,he'⟩,rfl,q ns' _ h2 h3 (I.hok.fresh (Nat.le_succ _))⟩
end
theorem afv {prog:Program}{w:World}{A:Around}{E:Value→Shared→Prop}{s:Shared}{l:Addr}{items:Array Value}{Q:Value→Shared→Prop}(hl:s.heap.IsList l items)
  (h:∀s₂:Shared,s₂={s with heap:=s.heap.push {cls:= .type "list_iterator",data:= .fields #[.ref l, .int 0 0]}}→
   (s₂.heap.IsListIter s.heap.objs.size l 0∧s₂.heap.IsList l items)→l≠s.heap.objs.size→Q (.ref s.heap.objs.size) s₂):wpAny (model prog w) A (pyIter (.ref l)) Q E s:=by
 have hlt:l<s.heap.objs.size:=by obtain⟨_,e,_⟩:=hl;exact Heap.lt_size e
 exact wpAny_pyIter_list hl (h _ rfl ⟨⟨_,Heap.get?_push_size _ rfl,rfl,rfl⟩,hl.push _⟩ (Nat.ne_of_lt hlt))
theorem Zv {prog:Program}{w:World}{A:Around}{bs:List Bool}{its:List Value}(e:its=bs.map Value.bool):
  TruthOf prog w A (fun i v=>its.toArray[i]?=some v) (fun i=>bs.getD i false):=fun i v s Q E hv hq=>by
 have hv':its[i]?=some v:=by simpa using hv
 rw[e,List.getElem?_map]at hv';obtain⟨b,hb,rfl⟩:=Option.map_eq_some_iff.mp hv';have hg:bs.getD i false=b:=by rw[List.getD_eq_getElem?_getD,hb]<;>rfl
 have hq':Q (bs.getD i false) s:=hq;rw[hg]at hq';exact wpAny_truthy_bool hq'
theorem all_range:∀bs:List Bool,(List.range bs.length).all (fun i=>bs.getD i false)=bs.all id
 |[]=>rfl
 |b::bs=>by
  rw[List.length_cons,List.range_succ_eq_map,List.all_cons,List.all_map,List.all_cons,←all_range bs];all_goals rfl
section
variable {X:Cx}
def ajp (K:PySem.W.Frag):List V→Hp→VK→Prop:=fun vs H Q=>∃(a:Addr) (bs:List Bool),vs=[V.ref a]∧dR K H a (bs.map V.bl)∧Q (.bl (bs.all id)) H
theorem K5 (hc:X.calm=true):rW X (.builtin "all") (ajp X.K):=by
 intro pins s σ H vs us Q I r h;obtain⟨a,bs,rfl,hs,q⟩:=h;obtain⟨its,rv,hl,_⟩:=I.list hs;rw[Vals.IK r];have hb:=rv.bls;refine call_all_walk (afv hl.isList fun s₂ e2 st hne=>?_);subst e2;refine⟨_,_,_,_,_,_,_,rfl,Walks.list (A:=X.A.in1) (I.ok.hd hc) _ a hne its.toArray,st,Zv hb,fun h' tk hk=>?_⟩;refine⟨.bl _,H,I.kept fun b o eo=>hk b o (fun hmem=>?_) (Heap.get?_push_of_some _ eo),?_,q⟩
 ·rcases List.mem_cons.mp hmem with e1|hmem
  ·exact absurd (e1▸Heap.lt_size eo) (Nat.lt_irrefl _)
  ·cases hmem
 ·show Value.bool _=Value.bool _
  rw[←all_range,hb,List.size_toArray,List.length_map]
end
end L2
namespace L2
open PySem PySem.Spec PyProof.Rows
abbrev aeV (h:Heap) (c:Addr) (v:Option Value):Prop:=h.IsCell c v
def akc (scope sc:Scope):Scope:=
 {scope with names:=scope.names.map fun(n,k)=>if (k== .free&&sc.kind== .function&&sc.names.lookup n==some .cell)then(n, .cell)else(n,k)}
def eU (cells:List (Str×Addr)):List (Str×NameKind)→List (Str×Addr)→List (Str×Addr)
 |[],acc=>acc
 |(n,k)::r,acc=>if k== .free then eU cells r ((n,(cells.lookup n).getD 0)::acc)else eU cells r acc
theorem IV (env:Env) (f:Str×NameKind→List (Str×Addr)→Sem (ForInStep (List (Str×Addr))))
  (hf:∀n k c,f (n,k) c=if k== .free then(do let a←cellOf env n;pure (.yield ((n,a)::c)))else pure (.yield c)):
  ∀(names:List (Str×NameKind)) (acc:List (Str×Addr)),(∀y∈names,y.2= .free→∃c,env.cells.lookup y.1=some c)→forIn names acc f=pure (eU env.cells names acc)
 |[],acc,_=>by rw[List.forIn_nil];rfl
 |(n,k)::r,acc,h=>by
  rw[List.forIn_cons,hf];have ih:=fun acc=>IV env f hf r acc fun y hy=>h y (List.mem_cons_of_mem _ hy)
  unfold eU;by_cases hk:(k==NameKind.free)=true
  ·rw[if_pos hk,if_pos hk]
   obtain⟨c,hc⟩:=h (n,k) List.mem_cons_self (by simpa using hk);have e:cellOf env n=pure c:=by unfold cellOf;rw[hc]
   rw[e];have e2:(env.cells.lookup n).getD 0=c:=by rw[hc];rfl
   rw[e2];exact ih _
  ·rw[if_neg hk,if_neg hk]
   exact ih _
theorem abI {scope:Scope}{env:Env}(h:∀y∈scope.names,y.2= .free→∃c,env.cells.lookup y.1=some c):closureFor scope env=pure (eU env.cells scope.names []):=by
 simp only[closureFor];rw[IV env _ (fun n k c=>rfl) scope.names [] h];rfl
theorem mem_lookup {α:Type}:∀{l:List (Str×α)}{n:Str}{c:α},(n,c)∈l→∃c',l.lookup n=some c'
 |(k,v)::r,n,c,h=>by
  rw[List.lookup_cons];cases hb:n==k with
  |true=>exact⟨_,rfl⟩
  |false=>
   rcases List.mem_cons.mp h with e|h
   ·cases e;simp at hb
   ·exact mem_lookup h
theorem wG {cells:List (Str×Addr)}:∀{names:List (Str×NameKind)}{acc:List (Str×Addr)}{n:Str}{c:Addr},(n,c)∈eU cells names acc→(n,c)∈acc∨((n, .free)∈names∧c=(cells.lookup n).getD 0)
 |[],_,_,_,h=> .inl h
 |(m,k)::r,acc,n,c,h=>by
  unfold eU at h
  split at h
  ·rename_i hk
   have hk:k= .free:=by simpa using hk
   rcases wG h with h|⟨h1,h2⟩
   ·rcases List.mem_cons.mp h with e|h
    ·cases e;exact .inr ⟨hk▸List.mem_cons_self,rfl⟩
    ·exact .inl h
   ·exact .inr ⟨List.mem_cons_of_mem _ h1,h2⟩
  ·rcases wG h with h|⟨h1,h2⟩
   ·exact .inl h
   ·exact .inr ⟨List.mem_cons_of_mem _ h1,h2⟩
theorem Cd {cells:List (Str×Addr)}:∀{names:List (Str×NameKind)}{acc:List (Str×Addr)}{p:Str×Addr},p∈acc→p∈eU cells names acc
 |[],_,_,h=>h
 |(m,k)::r,acc,p,h=>by
  unfold eU
  split
  ·exact Cd (List.mem_cons_of_mem _ h)
  ·exact Cd h
theorem Ce {cells:List (Str×Addr)}:∀{names:List (Str×NameKind)}{acc:List (Str×Addr)}{n:Str},(n, .free)∈names→(n,(cells.lookup n).getD 0)∈eU cells names acc
 |(m,k)::r,acc,n,h=>by
  unfold eU;rcases List.mem_cons.mp h with e|h
  ·cases e
   exact Cd List.mem_cons_self
  ·split
   ·exact Ce h
   ·exact Ce h
theorem xR:∀{names:List (Str×NameKind)}{h:Heap}{acc:List (Str×Addr)}{x:Str}{c:Addr},(x,c)∈cellsFrom h.objs.size names acc→
  (x,c)∈acc∨((x, .cell)∈names∧h.objs.size≤c∧aeV (pushCells h names) c none)
 |[],_,_,_,_,h=> .inl h
 |(n,k)::r,h,acc,x,c,hm=>by
  unfold cellsFrom at hm;unfold pushCells
  split at hm
  ·rename_i hk
   rw[if_pos hk];have hk:k= .cell:=by simpa using hk
   rw[←Heap.size_push h {cls:= .type "cell",data:= .cell none}]at hm;rcases xR hm with hm|⟨h1,h2,h3⟩
   ·rcases List.mem_cons.mp hm with e|hm
    ·cases e
     exact .inr ⟨hk▸List.mem_cons_self,Nat.le_refl _,_,pushCells_keeps r _ _ _ (Heap.get?_push_size _ rfl),rfl⟩
    ·exact .inl hm
   ·rw[Heap.size_push]at h2
    exact .inr ⟨List.mem_cons_of_mem _ h1,Nat.le_of_succ_le h2,h3⟩
  ·rename_i hk
   rw[if_neg hk];rcases xR hm with hm|⟨h1,h2,h3⟩
   ·exact .inl hm
   ·exact .inr ⟨List.mem_cons_of_mem _ h1,h2,h3⟩
theorem Cg:∀{names:List (Str×NameKind)}{n:Nat}{acc:List (Str×Addr)}{p:Str×Addr},p∈acc→p∈cellsFrom n names acc
 |[],_,_,_,h=>h
 |(m,k)::r,n,acc,p,h=>by
  unfold cellsFrom
  split
  ·exact Cg (List.mem_cons_of_mem _ h)
  ·exact Cg h
theorem Jv:∀{names:List (Str×NameKind)}{n:Nat}{acc:List (Str×Addr)}{x:Str},(x, .cell)∈names→∃c,(x,c)∈cellsFrom n names acc
 |(m,k)::r,n,acc,x,h=>by
  unfold cellsFrom;rcases List.mem_cons.mp h with e|h
  ·cases e
   exact⟨n,Cg List.mem_cons_self⟩
  ·split
   ·exact Jv h
   ·exact Jv h
theorem Jw:∀{names:List (Str×NameKind)}{h:Heap}{acc:List (Str×Addr)}{x y:Str}{c:Addr},(∀p∈acc,p.2<h.objs.size)→(∀x y c,(x,c)∈acc→(y,c)∈acc→x=y)→
  (x,c)∈cellsFrom h.objs.size names acc→(y,c)∈cellsFrom h.objs.size names acc→x=y
 |[],_,_,_,_,_,_,hi,h1,h2=>hi _ _ _ h1 h2
 |(n,k)::r,h,acc,x,y,c,hl,hi,h1,h2=>by
  unfold cellsFrom at h1 h2
  split at h1
  ·rename_i hk
   rw[if_pos hk]at h2;rw[←Heap.size_push h {cls:= .type "cell",data:= .cell none}]at h1 h2;refine Jw (h:=h.push _) (fun p hp=>?_) (fun x y c a b=>?_) h1 h2
   ·rw[Heap.size_push]
    rcases List.mem_cons.mp hp with rfl|hp
    ·exact Nat.lt_succ_self _
    ·exact Nat.lt_succ_of_lt (hl p hp)
   ·rcases List.mem_cons.mp a with e|a<;>rcases List.mem_cons.mp b with e'|b
    ·cases e;cases e';rfl
    ·cases e;exact absurd (hl _ b) (Nat.lt_irrefl _)
    ·cases e';exact absurd (hl _ a) (Nat.lt_irrefl _)
    ·exact hi _ _ _ a b
  ·rename_i hk
   rw[if_neg hk]at h2;exact Jw hl hi h1 h2
theorem Zw {M:Model}{A:Around}{E:Value→Shared→Prop}{s:Shared}{scope:Scope}{globals:Addr}{closure:List (Str×Addr)}{qual:Str}{func:Option Addr}{code:Value}{around:Env}{builtins:Addr}{Q:Env→Shared→Prop}
  (h:Q (newEnv scope s.heap.objs.size globals (cellsFrom (s.heap.objs.size+1) scope.names closure) qual func code (some around) builtins)
   {s with heap:=pushCells (s.heap.push {cls:= .type "dict",data:= .dict #[]}) scope.names}):
  wpAny M A (newFunctionEnv scope globals closure [] qual func code (some around) builtins) Q E s:=by
 simp only[newFunctionEnv,Option.isSome_some,if_true];refine wpAny_bind (wpAny_alloc ?_);refine wpAny_bind (wpAny_layCells _ (fun n k c=>rfl) scope.names closure _ _ ?_);rw[show({s with heap:=s.heap.push {cls:= .type "dict",data:= .dict #[]}}:Shared).heap.objs.size=s.heap.objs.size+1 from Heap.size_push ..];rw[List.forIn_nil];exact wpAny_bind (wpAny_pure (wpAny_pure h))
theorem Ci {sc:Scope}:∀{names:List (Str×NameKind)}{x:Str}{k:NameKind},
  (names.map fun(n,k)=>if (k==NameKind.free&&sc.kind== .function&&sc.names.lookup n==some .cell)then(n,NameKind.cell)else(n,k)).lookup x=some k→
  ∃k',names.lookup x=some k'∧(k=k'∨(k'= .free∧k= .cell))
 |[],_,_,h=>by simp at h
 |(n,k₀)::r,x,k,h=>by
  have ih:= @Ci sc r x k;have h':List.lookup x ((if (k₀==NameKind.free&&sc.kind== .function&&sc.names.lookup n==some .cell)=true then(n,NameKind.cell)else(n,k₀))::(r.map _))=some k:=h;cases hx:x==n with
  |true=>
   simp only[List.lookup_cons,hx];by_cases hc:(k₀==NameKind.free&&sc.kind== .function&&sc.names.lookup n==some .cell)=true
   ·rw[if_pos hc]at h'
    simp only[List.lookup_cons,hx]at h';cases h';simp only[Bool.and_eq_true,beq_iff_eq]at hc;exact⟨k₀,rfl, .inr ⟨hc.1.1,rfl⟩⟩
   ·rw[if_neg hc]at h'
    simp only[List.lookup_cons,hx]at h';cases h';exact⟨_,rfl, .inl rfl⟩
  |false=>
   simp only[List.lookup_cons,hx];by_cases hc:(k₀==NameKind.free&&sc.kind== .function&&sc.names.lookup n==some .cell)=true
   ·rw[if_pos hc]at h'
    simp only[List.lookup_cons,hx]at h';exact ih h'
   ·rw[if_neg hc]at h'
    simp only[List.lookup_cons,hx]at h';exact ih h'
structure Te (N:List Str) (sc scope:Scope) (own:List (Str×Nat)):Prop where
 kind:scope.kind= .function
 uniq:∀y∈scope.names,scope.names.lookup y.1=some y.2
 ix:∀p∈own,N[p.2]?=some p.1
 free:∀y∈scope.names,y.2= .free→sc.names.lookup y.1=some .cell∨sc.names.lookup y.1=some .free
 own:∀y∈scope.names,y.2= .local∨y.2= .cell→y.1∈own.map (·.1)∨y.1∉N
def wipe (σ:St):List Nat→St
 |[]=>σ
 |v::vs=>(wipe σ vs).set v none
theorem Cj (σ:St):∀vs:List Nat,(wipe σ vs).length=σ.length
 |[]=>rfl
 |v::vs=>by unfold wipe;rw[List.length_set,Cj σ vs]
theorem Jx {σ:St}{i:Nat}{x:V}:∀{vs:List Nat},(wipe σ vs)[i]?=some (some x)→σ[i]?=some (some x)∧i∉vs
 |[],h=>⟨h,by simp⟩
 |v::vs,h=>by
  unfold wipe at h;by_cases hi:v=i
  ·subst hi
   by_cases hv:v<(wipe σ vs).length
   ·rw[List.getElem?_set_self hv]at h;cases h
   ·rw[List.getElem?_eq_none (by simpa using hv)]at h;cases h
  ·rw[List.getElem?_set_ne hi]at h
   obtain⟨h1,h2⟩:=Jx h;exact⟨h1,by simp only[List.mem_cons,not_or];exact⟨fun e=>hi e.symm,h2⟩⟩
abbrev Cx.blk (X:Cx) (s:Shared) (H:Hp) (scope:Scope) (cenv:Env) (fp:List Addr):Cx:={X with s_0:=s,Nr:=H,env:=cenv,outer:=X.stack,ex:=fp,fn:=fun x=>scope.names.lookup x==some .cell,pn:=[],xe:=fun _ _=>False}
section
variable {X:Cx}{pins:List (Addr×Obj)}{σ:St}{H:Hp}{s:Shared}
theorem Zx {scope:Scope}{own:List (Str×Nat)}{fp:List Addr}(I:Inv X pins σ H s) (ok:Te X.N X.env.scope scope own) (hN:X.N.Nodup) (hfp:∀b∈fp,Es X pins H b∧b<s.heap.objs.size):
  Inv (X.blk s H scope (compEnvC scope (cellsFrom (s.heap.objs.size+1) scope.names (eU X.env.cells scope.names [])) s.heap.objs.size X.env) fp) [] (wipe σ (own.map (·.2))) H {s with heap:=pushCells (s.heap.push {cls:= .type "dict",data:= .dict #[]}) scope.names}:=by
 have hfree:∀y∈scope.names,y.2= .free→∃c,X.env.cells.lookup y.1=some c:=fun y hy e=>by
  rcases ok.free y hy e with k|k
  ·exact I.ok.has _ (.inl k)
  ·exact I.ok.has _ (.inr k)
 generalize Tf:compEnvC scope (cellsFrom (s.heap.objs.size+1) scope.names (eU X.env.cells scope.names [])) s.heap.objs.size X.env=cenv;have kp:∀b o,s.heap.get? b=some o→(pushCells (s.heap.push {cls:= .type "dict",data:= .dict #[]}) scope.names).get? b=some o:=fun b o e=>pushCells_keeps _ _ _ _ (Heap.get?_push_of_some _ e)
 have hL:cenv.locals=s.heap.objs.size:=by rw[←Tf];rfl
 have hcl:cenv.cells=cellsFrom (s.heap.objs.size+1) scope.names (eU X.env.cells scope.names []):=by rw[←Tf];rfl
 have hsc:cenv.scope=akc scope X.env.scope:=by rw[←Tf];rfl
 rw[←Heap.size_push s.heap {cls:= .type "dict",data:= .dict #[]}]at hcl;have cm:∀{y c},(y,c)∈eU X.env.cells scope.names []→X.env.cells.lookup y=some c∧c<s.heap.objs.size:=fun{y c} hm=>by
  rcases wG hm with hm|⟨h1,rfl⟩
  ·cases hm
  ·obtain⟨c,hc⟩:=hfree _ h1 rfl
   rw[hc];obtain⟨w,z⟩:=I.cell _ _ hc;exact⟨rfl,z.lt⟩
 have mem:∀{y c},cenv.cells.lookup y=some c→(X.env.cells.lookup y=some c∧c<s.heap.objs.size)∨(s.heap.objs.size+1≤c∧aeV (pushCells (s.heap.push {cls:= .type "dict",data:= .dict #[]}) scope.names) c none):=fun{y c} e=>by
  rw[hcl]at e;rcases xR (PySem.mem_of_lookup e)with hm|⟨_,h2,h3⟩
  ·exact .inl (cm hm)
  ·rw[Heap.size_push]at h2;exact .inr ⟨h2,h3⟩
 have look:∀{y},scope.names.lookup y=some .free→∃c,cenv.cells.lookup y=some c∧X.env.cells.lookup y=some c:=fun{y} hl=>by
  have hy:(y,NameKind.free)∈scope.names:=PySem.mem_of_lookup hl;obtain⟨c',e'⟩:=mem_lookup (Cg (names:=scope.names) (n:=(s.heap.push {cls:= .type "dict",data:= .dict #[]}).objs.size) (Ce (cells:=X.env.cells) (acc:=[]) hy));rw[←hcl]at e';refine⟨c',e',?_⟩;rw[hcl]at e';rcases xR (PySem.mem_of_lookup e')with hm|⟨h1,_,_⟩
  ·exact(cm hm).1
  ·have:=ok.uniq _ h1
   rw[hl]at this;cases this
 have okB:(X.blk s H scope cenv fp).Ok:=by
  refine⟨I.ok.mod,by show cenv.scope.kind=_;rw[hsc];exact ok.kind,by show cenv.globals=_;rw[←Tf];exact I.ok.glob,by show cenv.builtins=_;rw[←Tf];exact I.ok.blt,by show s.heap.objs.size≤cenv.locals;rw[hL];exact Nat.le_refl _,
   fun y z c e1 e2=>?_,fun y hy=>?_,fun y c z e=>?_,I.ok.hd,I.ok.frames, .inl rfl,fun b hb=>⟨?_,fun y c e z=>?_⟩,I.bs,Nat.le_trans I.ok.Wk I.sz,fun b o e hb=>?_,fun b hb z=>?_,I.stack,I.abq⟩
  ·have e1:cenv.cells.lookup y=some c:=e1
   have e2:cenv.cells.lookup z=some c:=e2;rw[hcl]at e1 e2;refine Jw (fun p hp=>?_) (fun y z c a b=>I.ok.inj y z c (cm a).1 (cm b).1) (PySem.mem_of_lookup e1) (PySem.mem_of_lookup e2);rw[Heap.size_push];exact Nat.lt_succ_of_lt (cm (y:=p.1) (c:=p.2) hp).2
  ·show∃c,cenv.cells.lookup y=some c
   have key:∀k,cenv.kindOf y=some k→(k= .cell∨k= .free)→∃c,cenv.cells.lookup y=some c:=fun k hk hk'=>by
    unfold Env.kindOf at hk;rw[hsc]at hk;obtain⟨k',e,r⟩:=Ci hk;have:k'= .cell∨k'= .free:=by
     rcases r with rfl|⟨rfl,_⟩
     ·exact hk'
     ·exact .inr rfl
    rcases this with rfl|rfl
    ·obtain⟨c,hm⟩:=Jv (n:=(s.heap.push {cls:= .type "dict",data:= .dict #[]}).objs.size) (acc:=eU X.env.cells scope.names []) (PySem.mem_of_lookup e)
     obtain⟨c',e'⟩:=mem_lookup hm;exact⟨c',by rw[hcl];exact e'⟩
    ·obtain⟨c,h1,_⟩:=look e
     exact⟨c,h1⟩
   rcases hy with hy|hy
   ·exact key _ hy (.inl rfl)
   ·exact key _ hy (.inr rfl)
  ·have z:(scope.names.lookup y==some NameKind.cell)=true:=z
   have z:scope.names.lookup y=some .cell:=by simpa using z
   have e:cenv.cells.lookup y=some c:=e;rw[hcl]at e;rcases xR (PySem.mem_of_lookup e)with hm|⟨_,h2,_⟩
   ·rcases wG hm with hm|⟨h1,_⟩
    ·cases hm
    ·have q:=ok.uniq _ h1
     rw[z]at q;cases q
   ·rw[Heap.size_push]at h2
    exact Nat.le_of_succ_le h2
  ·show b≠cenv.locals
   rw[hL];exact Nat.ne_of_lt (hfp b hb).2
  ·have e:cenv.cells.lookup y=some c:=e
   rcases mem e with⟨h1,_⟩|⟨h1,_⟩
   ·exact(hfp b hb).1.2.2.2.2.1 y c h1 z
   ·have h2:s.heap.objs.size+1≤b:=by rw[←z];exact h1
    exact absurd (Nat.lt_of_lt_of_le (hfp b hb).2 (Nat.le_of_succ_le h2)) (Nat.lt_irrefl _)
  ·rcases(hfp b hb).1.2.2.2.1 with z|z
   ·exact I.ok.abo b o e z
   ·exact absurd (Nat.lt_of_lt_of_le (Heap.lt_size e) (Nat.le_trans I.ok.Wk z)) (Nat.lt_irrefl _)
  ·rcases List.mem_cons.mp (I.Zh b z)with z|z
   ·exact(hfp b hb).1.2.1 z
   ·exact(hfp b hb).1.2.2.1 z
 refine⟨okB,rfl,I.bare,Un.kept kp,⟨fun _=>none,?_,fun i y av e1 e2 e3=>?_⟩,fun y c e=>?_,?_,fun y c e=>?_,fun p hp=>?_,I.hok.kept kp,by rw[Cj];exact I.len⟩
 ·show Heap.Ns _ cenv.locals _
  rw[hL];exact Heap.Ns.keeps (Heap.Ns.new ..) fun b o e=>pushCells_keeps _ _ _ _ e
 ·obtain⟨e2,hne⟩:=Jx e2
  have hfr:scope.names.lookup y=some .free∧(cenv.kindOf y=some .cell∨cenv.kindOf y=some .free):=by
   have key:∀k,cenv.scope.names.lookup y=some k→k= .local∨k= .cell∨k= .free→scope.names.lookup y=some .free∧(cenv.kindOf y=some .cell∨cenv.kindOf y=some .free):=fun k hk hk'=>by
    have hk0:=hk;rw[hsc]at hk;obtain⟨k',e,r⟩:=Ci hk;have no:¬(k'= .local∨k'= .cell):=fun hh=>by
     rcases ok.own _ (PySem.mem_of_lookup e) hh with e'|e'
     ·obtain⟨p,hp,hpy⟩:=List.mem_map.mp e'
      have e3:=ok.ix p hp;have:p.1=y:=hpy;rw[this]at e3;exact hne (List.mem_map.mpr ⟨p,hp,Nu hN e3 e1⟩)
     ·exact e' (List.mem_of_getElem? e1)
    rcases r with rfl|⟨rfl,rfl⟩
    ·rcases hk' with rfl|rfl|rfl
     ·exact absurd (.inl rfl) no
     ·exact absurd (.inr rfl) no
     ·exact⟨e, .inr hk0⟩
    ·exact⟨e, .inl hk0⟩
   have e3:Vis cenv.scope y:=e3;rcases e3 with e3|e3|e3
   ·exact key _ e3 (.inl rfl)
   ·exact key _ e3 (.inr (.inl rfl))
   ·exact key _ e3 (.inr (.inr rfl))
  obtain⟨m,hn,hl⟩:=I.loc;have akd:Vis X.env.scope y:=(ok.free _ (PySem.mem_of_lookup hfr.1) rfl).elim (fun k=> .inr (.inl k)) (fun k=> .inr (.inr k));obtain⟨w,r,q⟩:=hl i y av e1 e2 akd;refine⟨w,r, .inr ⟨hfr.2,?_⟩⟩;obtain⟨c,h1,h2⟩:=look hfr.1;rcases q with⟨k,_⟩|⟨_,c',e',z⟩
  ·have k:X.env.scope.names.lookup y=some .local:=k
   rcases ok.free _ (PySem.mem_of_lookup hfr.1) rfl with k'|k'<;>rw[show X.env.scope.names.lookup y=_ from k']at k<;>cases k
  ·rw[h2]at e';cases e'
   exact⟨c,h1,z.keeps kp⟩
 ·have e:cenv.cells.lookup y=some c:=e
  rcases mem e with⟨h1,_⟩|⟨_,z⟩
  ·obtain⟨w,z⟩:=I.cell y c h1
   exact⟨w,z.keeps kp⟩
  ·exact⟨_,z⟩
 ·show H cenv.locals=none
  rw[hL];exact I.hok.fresh (Nat.le_refl _)
 ·have e:cenv.cells.lookup y=some c:=e
  rcases mem e with⟨h1,_⟩|⟨h1,_⟩
  ·exact I.rT y c h1
  ·exact I.hok.fresh (Nat.le_of_succ_le h1)
 ·exact absurd (show p∈([]:List (Addr×Obj))++[]from hp) (by simp)
theorem aiw {E:Value→Shared→Prop}{D:Addr}{xs:List V}{y:V}{v:Value}{Q:Value→Shared→Prop}(I:Inv X pins σ H s) (hD:H D=some (.lst xs)) (hz:xs.length<sizeLine) (r:RelV y v)
  (h:∀s',Inv X pins σ (upd H D (.lst (xs++[y]))) s'→Q .none s'):wpAny (model X.prog X.w) X.A (call (.builtin "list.append") [.ref D,v]) Q E s:=by
 obtain⟨hz',its,n,ri,e⟩:=I.hok D _ hD;have hl:=ri.length;refine append_at (hsz:=by rw[List.size_toArray];omega) e fun h' sb ho'=>?_
 refine h {s with heap:=h'} (I.write (t':=s.toks) (by rw[hD];trivial) (.inl rfl) (fun b u hb q=>(sb.2 b hb).trans q) ⟨_,ho'⟩ ⟨by rw[List.length_append];exact hz,its++[v],n+1,ri.append (.cons r .nil),?_⟩);rw[ho'];simp
def PTs (X:Cx) (ifs:List Expr) (t:TT):Prop:=
 ∀(pins:List (Addr×Obj)) (s:Shared) (σ:St) (H:Hp) (Q:Bool→Hp→Prop),Inv X pins σ H s→t σ H Q→
  wpAny (model X.prog X.w) X.A (forIn ifs true fun c r=>if r=true then do let ok←isTrue c X.env (eval c X.env);pure (ForInStep.yield ok)else pure (ForInStep.yield r)) (TP X pins σ Q) X.xe s
def agV:TT:=fun _ H Q=>Q true H
theorem nZ:PTs X [] agV:=fun _ _ _ H _ I h=>wpAny_tests_nil ⟨H,I,h⟩
theorem rY {c:Expr}{t:TT}(h:PT X c t):PTs X [c] t:=fun pins s σ H Q I hw=>wpAny_tests_one (h pins s σ H Q I hw)
end
theorem Ys {α:Type}{t:Sem α}{Q Q':α→Shared→Prop}{M:Model}{A:Around}{E:Value→Shared→Prop}{s:Shared}(h:wpAny M A t Q (fun _ _=>False) s) (hQ:∀a s,Q a s→Q' a s):wpAny M A t Q' E s:=wpAny_mono h hQ fun _ _ z=>False.elim z
theorem Wn {prog:Program}{w:World}{A:Around}{R:Result→Shared→Prop}{s:Shared}{elt target iter:Expr}{ifs:List Expr}{scope:Scope}{pos:Pos}{it acc:Value}{env:Env}(I:Nat→Shared→Prop)
  (turn:∀n s,I n s→wpAny (model prog w) A (pyNext it) (fun r s₁=>match r with
   |none=>R (.ok .next) s₁
   |some v=>wpAny (model prog w) A (letOwnedTupleGo target it v) (fun _ s₁'=>wpAny (model prog w) A (assign target env v) (fun _ s₂=>
     wpAny (model prog w) A (forIn ifs true fun c r=>if r=true then do let ok←isTrue c env (eval c env);pure (ForInStep.yield ok)else pure (ForInStep.yield r)) (fun ok s₃=>
      if ok=true then wpAny (model prog w) A (eval elt env) (fun x s₄=>
       wpAny (model prog w) A (call (.builtin "list.append") [acc,x]) (fun _ s₅=>∃m,m<n∧I m s₅) (notedBy (model prog w) A env fun e s'=>R (.error e) s') s₄) (notedBy (model prog w) A env fun e s'=>R (.error e) s') s₃
      else∃m,m<n∧I m s₃) (notedBy (model prog w) A env fun e s'=>R (.error e) s') s₂) (notedBy (model prog w) A env fun e s'=>R (.error e) s') s₁') (notedBy (model prog w) A env fun e s'=>R (.error e) s') s₁) (notedBy (model prog w) A env fun e s'=>R (.error e) s') s)
  (n:Nat) (h:I n s):
  codeAny (model prog w) A (.compLoop (.ListComp elt [⟨target,iter,ifs,0⟩] scope pos) 0 it acc env) R s:=by
 refine codeAny_loop rfl I (fun n s hI=>?_) n h;show wpAny _ A ((compTurn (.ListComp elt [⟨target,iter,ifs,0⟩] scope pos) 0 it acc env).onRaise (fun x=>do noteFrame x env;theTreesLotGoes x)) _ _ s;refine wpAny_noted ?_;rw[compTurn_list];refine wpAny_bind (wpAny_standAt (wpAny_bind (wpAny_mono (turn n s hI) (fun r s₁ h₁=>?_) fun _ _ h'=>h')));cases r with
 |none=>exact wpAny_pure h₁
 |some v=>
  refine wpAny_bind (wpAny_mono h₁ (fun _ s₁' h₁'=>?_) fun _ _ h'=>h');refine wpAny_bind (wpAny_mono h₁' (fun _ s₂ h₂=>wpAny_bind (wpAny_mono h₂ (fun ok s₃ h₃=>?_) fun _ _ h'=>h')) fun _ _ h'=>h');cases ok with
  |false=>exact wpAny_pure ⟨rfl,h₃⟩
  |true=>
   exact wpAny_bind (wpAny_bind (wpAny_mono h₃ (fun x s₄ h₄=>wpAny_bind (wpAny_mono h₄ (fun _ s₅ h₅=>wpAny_pure (wpAny_pure ⟨rfl,h₅⟩)) fun _ _ h'=>h')) fun _ _ h'=>h'))
section
variable {X:Cx}
def Ti (wi:TI) (g:TG) (tt:TT) (te:TE) (vs:List Nat):TE:=fun σ H Q=>wi σ H fun J H1=>∀D,H1 D=none→∃W:Nat→Nat→Hp→Prop,(∃m,W 0 m (upd H1 D (.lst [])))∧∀i m H,W i m H→
 (J.stop i H∧Q (.ref D) H)∨(J.go i H∧∃Nx:Hp→Prop,(∀H',Nx H'→∃m',m'<m∧W (i+1) m' H')∧∀x H',J.Zi i H x H'→g x (wipe σ vs) H' fun σ2 H2=>wipe σ2 vs=wipe σ vs∧tt σ2 H2 fun b H3=>
  if b=true then te σ2 H3 fun y H4=>∃acc,H4 D=some (.lst acc)∧acc.length<sizeLine∧Nx (upd H4 D (.lst (acc++[y])))else Nx H3)
theorem abJ {pins:List (Addr×Obj)}{s:Shared}{σ:St}{H:Hp}{Q:VK}{elt tg iter:Expr}{ifs:List Expr}{scope:Scope}{own:List (Str×Nat)}{pos pos':Pos}{wi:TI}{g:TG}{tt:TT}{te:TE}{use:Option (Value→Sem Unit)}{Qf:Value→Shared→Prop}
  (hc:X.calm=true) (hN:X.N.Nodup) (I:Inv X pins σ H s) (hi:PI X tg iter wi) (ok:Te X.N X.env.scope scope own)
  (hg:∀(s:Shared) (H:Hp) (C:Addr) (cl:List (Str×Addr)) (fp:List Addr),PG (X.blk s H scope (compEnvC scope cl C X.env) fp) tg g) (ht:∀(s:Shared) (H:Hp) (C:Addr) (cl:List (Str×Addr)) (fp:List Addr),PTs (X.blk s H scope (compEnvC scope cl C X.env) fp) ifs tt)
  (he:∀(s:Shared) (H:Hp) (C:Addr) (cl:List (Str×Addr)) (fp:List Addr),PE (X.blk s H scope (compEnvC scope cl C X.env) fp) elt te) (hs:∀x,foldedSetIterable iter X.env x=pure x)
  (h:Ti wi g tt te (own.map (·.2)) σ H Q)
  (hRR:∀D C s' m H',Inv X pins σ H' s'→Q (.ref D) H'→s'.heap.Ns C m→Es X pins H' C→compPost (model X.prog X.w) X.A X.xe use Qf (.ref D) C (.ok .next) s'):
  wpAny (model X.prog X.w) X.A (comprehension (.ListComp elt [⟨tg,iter,ifs,0⟩] scope pos) scope X.env pos' (newList []) false (eval iter X.env) use) Qf X.xe s:=by
 have hfree:∀y∈scope.names,y.2= .free→∃c,X.env.cells.lookup y.1=some c:=fun y hy e=>by
  rcases ok.free y hy e with k|k
  ·exact I.ok.has _ (.inl k)
  ·exact I.ok.has _ (.inr k)
 refine wpAny_comprehension_free (use:=use) rfl hs (abI hfree) ok.kind (fun y hy e=>by rw[ok.uniq y hy,e])
  (cN (hi pins s σ H _ I h) fun xv s1 hx=>cN hx fun itv s2 h2=>?_)
 obtain⟨it,fp,tn,J,H2,e,I2,T,st2,f2,q⟩:=h2;subst e;refine wpAny_newObj_type (Zw ?_) (by show 0≤sizeLine;decide);generalize hD:s2.heap.objs.size=D;have hDn:H2 D=none:=I2.hok.fresh (Nat.le_of_eq hD);obtain⟨W,⟨m0,w0⟩,turn⟩:=q D hDn
 -- the new list
 generalize hs3:({s2 with heap:=s2.heap.push {cls:= .type "list",data:= .seq ([]:List Value).toArray}}:Shared)=s3;have I3:Inv X pins σ (upd H2 D (.lst [])) s3:=by
  rw[←hs3];refine I2.laid (t':=s2.toks) (fun b o e=>Heap.get?_push_of_some _ e) (Nat.le_of_eq hD) ⟨Nat.zero_le _,[],0, .nil,?_⟩;rw[←hD];exact Heap.get?_push_size _ rfl
 have h3:s3.heap=s2.heap.push {cls:= .type "list",data:= .seq ([]:List Value).toArray}:=by rw[←hs3]
 have sz:∀b∈fp,b<s2.heap.objs.size:=fun b hb=>by
  obtain⟨o,e,_⟩:=T.obj _ _ st2 b hb;exact Heap.lt_size e
 have f3:∀b∈fp,Es X pins (upd H2 D (.lst [])) b∧b<s3.heap.objs.size:=fun b hb=>by
  have hlt:=sz b hb;refine⟨⟨?_,(f2 b hb).2⟩,by rw[h3,Heap.size_push];exact Nat.lt_succ_of_lt hlt⟩;rw[aJ (by rw[←hD];exact Nat.ne_of_lt hlt)];exact(f2 b hb).1
 have st3:tn 0 s3.heap:=T.keep _ _ _ st2 fun b _ o e=>by rw[h3];exact Heap.get?_push_of_some _ e
 have I4:=Zx I3 ok hN f3;have pg:=hg s3 (upd H2 D (.lst [])) s3.heap.objs.size (cellsFrom (s3.heap.objs.size+1) scope.names (eU X.env.cells scope.names [])) fp;have pt:=ht s3 (upd H2 D (.lst [])) s3.heap.objs.size (cellsFrom (s3.heap.objs.size+1) scope.names (eU X.env.cells scope.names [])) fp;have pe:=he s3 (upd H2 D (.lst [])) s3.heap.objs.size (cellsFrom (s3.heap.objs.size+1) scope.names (eU X.env.cells scope.names [])) fp;show codeAny _ _ (.compStart (.ListComp elt [⟨tg,iter,ifs,0⟩] scope pos) 0 (.ref it) (.ref D) (compEnvC scope (cellsFrom (s3.heap.objs.size+1) scope.names (eU X.env.cells scope.names [])) s3.heap.objs.size X.env)) (compPost (model X.prog X.w) X.A X.xe use Qf (.ref D) s3.heap.objs.size) {s3 with heap:=pushCells (s3.heap.push {cls:= .type "dict",data:= .dict #[]}) scope.names};have nfp:∀b∈fp,(upd H2 D (.lst [])) b=none:=fun b hb=>(f3 b hb).1.1
 generalize hce:compEnvC scope (cellsFrom (s3.heap.objs.size+1) scope.names (eU X.env.cells scope.names [])) s3.heap.objs.size X.env=ce at I4 pg pt pe⊢;have cL:ce.locals=s3.heap.objs.size:=by subst hce;rfl
 generalize hH3:upd H2 D (.lst [])=H3 at I3 I4 pg pt pe w0 nfp f3;generalize hs4:({s3 with heap:=pushCells (s3.heap.push {cls:= .type "dict",data:= .dict #[]}) scope.names}:Shared)=s4 at I4⊢;have st4:tn 0 s4.heap:=T.keep _ _ _ st3 fun b _ o e=>by rw[←hs4];exact pushCells_keeps _ _ _ _ (Heap.get?_push_of_some _ e)
 have stat:∀{σ':St}{H':Hp}{s':Shared},Inv (X.blk s3 H3 scope ce fp) [] σ' H' s'→(∀b∈fp,H' b=none)→∀b∈fp,Es (X.blk s3 H3 scope ce fp) [] H' b:=fun{σ' H' s'} I' hn b hb=>
  ⟨hn b hb,(I'.ok.exf b hb).1,I'.ok.abp b hb, .inl hb,fun x c e=>(I'.ok.exf b hb).2 x c e,fun p hp=>absurd (show p∈([]:List (Addr×Obj))++[]from hp) (by simp)⟩
 have loop:codeAny (model X.prog X.w) X.A (.compLoop (.ListComp elt [⟨tg,iter,ifs,0⟩] scope pos) 0 (.ref it) (.ref D) ce) (compPost (model X.prog X.w) X.A X.xe use Qf (.ref D) s3.heap.objs.size) s4:=by
  refine Wn (fun n s'=>∃i H',Inv (X.blk s3 H3 scope ce fp) [] (wipe σ (own.map (·.2))) H' s'∧tn i s'.heap∧(∀b∈fp,H' b=none)∧W i n H') ?_ m0 ⟨0,H3,I4,st4,nfp,w0⟩;rintro n s5 ⟨i,H5,I5,st5,n5,w5⟩;rcases turn i n H5 w5 with⟨stop,qq⟩|⟨go,Nx,hNx,step⟩
  ·have td:=T.done (X.blk s3 H3 scope ce fp) rfl rfl rfl hc i [] s5 _ H5 (fun _ _=>False) I5 (stat I5 n5) st5 stop
   refine Ys td fun r s6 ⟨hr,I6⟩=>?_
   subst hr
   -- back in the def's context
   have I7:Inv X pins σ H5 s6:=I3.call' (ch:=fp) I6.os I6.base I6.hok I6.bare fun b hb=>⟨(f3 b hb).1.2.2.2.1,(f3 b hb).1.2.1,(f3 b hb).1.2.2.2.2.1,(f3 b hb).1.2.2.2.2.2⟩
   have nC:H5 s3.heap.objs.size=none:=by
    have z:H5 ce.locals=none:=I6.free;rw[cL]at z;exact z
   obtain⟨m,hn,_⟩:=I6.loc;have hn:s6.heap.Ns ce.locals m:=hn;rw[cL]at hn;exact hRR D s3.heap.objs.size s6 m H5 I7 qq hn (I3.Ym (Nat.le_refl _) nC)
  ·have ti:=T.item (X.blk s3 H3 scope ce fp) rfl rfl rfl hc i [] s5 _ H5 (fun _ _=>False) I5 (stat I5 n5) st5 go
   refine Ys ti fun r s6 ⟨u,hr,h6⟩=>?_
   subst hr;refine Ys h6 fun _ s7 ⟨x,H7,I7,r7,y7,st7,n7⟩=>?_
   have I7':=I7.pinned (stat I7 n7) (T.obj _ _ st7);refine Ys (pg _ s7 _ H7 x u _ I7' r7 (step x H7 y7)) fun _ s8 ⟨σ8,H8,I8,Zy,q8⟩=>?_
   refine Ys (pt _ s8 σ8 H8 _ I8 q8) fun b s9 ⟨H9,I9,q9⟩=>?_
   -- the turn's end
   have fin:∀{s':Shared}{H':Hp},Inv (X.blk s3 H3 scope ce fp) ([]++KD fp s7.heap) σ8 H' s'→Nx H'→∃m,m<n∧∃i H',Inv (X.blk s3 H3 scope ce fp) [] (wipe σ (own.map (·.2))) H' s'∧tn i s'.heap∧(∀b∈fp,H' b=none)∧W i m H':=fun{s' H'} I' nx=>by
    obtain⟨m',hm,w'⟩:=hNx H' nx;have ajq:∀b∈fp,∀o,s7.heap.get? b=some o→s'.heap.get? b=some o∧H' b=none:=fun b hb o e=>
     let z:=I'.pin (b,o) (List.mem_append_right _ (List.mem_append_right _ (Fq hb e)))
     ⟨z.1,z.2.1⟩
    have hl:(wipe σ (own.map (·.2))).length=σ8.length:=by rw[←Zy,Cj]
    refine⟨m',hm,i+1,H',(I'.Hv (pins:=[])).weak hl (fun j v e=>?_),T.keep _ _ _ st7 fun b hb o e=>(ajq b hb o e).1,fun b hb=>?_,w'⟩
    ·rw[←Zy]at e
     exact(Jx e).1
    ·obtain⟨o,e,_⟩:=T.obj _ _ st7 b hb
     exact(ajq b hb o e).2
   cases b with
   |false=>
    simp only[Bool.false_eq_true,if_false]at q9⊢;exact fin I9 q9
   |true=>
    simp only[if_true]at q9⊢;refine Ys (pe _ s9 σ8 H9 _ I9 q9) fun z s10 ⟨yv,H10,I10,r10,acc,ake,akf,nx⟩=>?_
    exact aiw (X:=X.blk s3 H3 scope ce fp) I10 ake akf r10 fun s11 I11=>fin I11 nx
 exact codeAny_compStart_list loop (T.self X.A 0 _ _ _ st4 loop)
theorem pW {elt tg iter:Expr}{ifs:List Expr}{scope:Scope}{own:List (Str×Nat)}{pos:Pos}{wi:TI}{g:TG}{tt:TT}{te:TE}(hc:X.calm=true) (hN:X.N.Nodup) (hi:PI X tg iter wi) (ok:Te X.N X.env.scope scope own)
  (hg:∀(s:Shared) (H:Hp) (C:Addr) (cl:List (Str×Addr)) (fp:List Addr),PG (X.blk s H scope (compEnvC scope cl C X.env) fp) tg g) (ht:∀(s:Shared) (H:Hp) (C:Addr) (cl:List (Str×Addr)) (fp:List Addr),PTs (X.blk s H scope (compEnvC scope cl C X.env) fp) ifs tt)
  (he:∀(s:Shared) (H:Hp) (C:Addr) (cl:List (Str×Addr)) (fp:List Addr),PE (X.blk s H scope (compEnvC scope cl C X.env) fp) elt te) (hs:∀x,foldedSetIterable iter X.env x=pure x:=by intro _;rfl):
  PE X (.ListComp elt [⟨tg,iter,ifs,0⟩] scope pos) (Ti wi g tt te (own.map (·.2))):=by
 intro pins s σ H Q I h;rw[eval_ListComp];refine abJ hc hN I hi ok hg ht he hs h fun D C s' m H' I' q hn f=>⟨m,hn,fun h'' sb=>?_⟩
 obtain⟨f0,f1,f2,f3,f4,f5⟩:=f;exact⟨.ref D,H',I'.turned (t':=s'.toks) (fun b o hb e=>(sb.2 b hb).trans e) f0 f1 f3 f4 f5,rfl,q⟩
theorem Hx {i:Nat}{y:Str}{py:Pos}{elt tg iter:Expr}{ifs:List Expr}{scope:Scope}{own:List (Str×Nat)}{pos spos:Pos}{wi:TI}{g:TG}{tt:TT}{te:TE}(hc:X.calm=true) (hN:X.N.Nodup) (hy:X.N[i]?=some y) (hyl:X.env.scope.names.lookup y=some .local)
  (hsw:swapsWith (.ListComp elt [⟨tg,iter,ifs,0⟩] scope pos) (some (.Name y py)) spos.line X.env=pure true) (hi:PI X tg iter wi) (ok:Te X.N X.env.scope scope own)
  (hg:∀(s:Shared) (H:Hp) (C:Addr) (cl:List (Str×Addr)) (fp:List Addr),PG (X.blk s H scope (compEnvC scope cl C X.env) fp) tg g) (ht:∀(s:Shared) (H:Hp) (C:Addr) (cl:List (Str×Addr)) (fp:List Addr),PTs (X.blk s H scope (compEnvC scope cl C X.env) fp) ifs tt)
  (he:∀(s:Shared) (H:Hp) (C:Addr) (cl:List (Str×Addr)) (fp:List Addr),PE (X.blk s H scope (compEnvC scope cl C X.env) fp) elt te) (hs:∀x,foldedSetIterable iter X.env x=pure x:=by intro _;rfl):
  PS X (.Assign [.Name y py] (.ListComp elt [⟨tg,iter,ifs,0⟩] scope pos) spos) (Qi (Ti wi g tt te (own.map (·.2))) (pU i)):=by
 intro pins s σ H D I h;rw[exec_Assign_Name_used _ _ _ _ hsw];refine wpAny_bind (wpAny_standAt (wpAny_bind ?_));show wpAny _ X.A (do let _←comprehension (.ListComp elt [⟨tg,iter,ifs,0⟩] scope pos) scope X.env (firstIterPos [⟨tg,iter,ifs,0⟩] pos) (newList []) false (eval iter X.env) (some (assign (.Name y py) X.env))) _ _ s;have h:Ti wi g tt te (own.map (·.2)) σ H (fun x H1=>pU i x σ H1 D.nx):=h;refine wpAny_bind (cN (abJ (Qf:=fun _ s'=>SP X pins D .next s') hc hN I hi ok hg ht he hs h fun L C s' m H' I' q hn f=>?_) fun _ s' hq=>wpAny_pure (wpAny_pure hq));show wpAny _ _ (assign (.Name y py) X.env (.ref L)) _ _ _;refine wpAny_assign_Name (Sq (v:=V.ref L) I' hN hy (.inl hyl) rfl (fun s2 I2 ⟨a,sb,ha⟩=>?_) (.inr hyl));obtain⟨f0,f1,f2,f3,f4,f5⟩:=f;have haC:C≠a:=by
  rcases ha with z|z
  ·rw[z];exact f1
  ·exact fun e=>f4 y a z e.symm
 refine⟨m,hn.sameBut sb haC,fun h3 sb3=>?_⟩;exact⟨_,H',I2.turned (t':=s2.toks) (fun b o hb e=>(sb3.2 b hb).trans e) f0 f1 f3 f4 f5,q⟩
end
end L2
namespace L2
open PySem PySem.Spec PyProof.Rows
section
variable {κ:Type} [DecidableEq κ]
def mF (kvs:List (κ×V)) (k:κ):Option V:=(kvs.find? fun kv=>decide (kv.1=k)).map (·.2)
def putK (kvs:List (κ×V)) (k:κ) (v:V):List (κ×V):=
 if (kvs.any fun kv=>decide (kv.1=k))=true then kvs.map (fun kv=>if kv.1=k then(kv.1,v)else kv)else kvs++[(k,v)]
def Jy (kvs:List (κ×V)) (k:κ):List (κ×V):=kvs.filter fun kv=>decide (kv.1≠k)
theorem xH {p:κ×V}{r:List (κ×V)}{k:κ}(e:p.1=k):mF (p::r) k=some p.2:=by simp[mF,List.find?_cons,e]
theorem uw {p:κ×V}{r:List (κ×V)}{k:κ}(e:¬p.1=k):mF (p::r) k=mF r k:=by simp[mF,List.find?_cons,e]
theorem Az (k:κ):∀kvs:List (κ×V),(kvs.any fun kv=>decide (kv.1=k))=(mF kvs k).isSome
 |[]=>rfl
 |p::r=>by
  rw[List.any_cons];by_cases e:p.1=k
  ·simp only[xH e,decide_eq_true e,Bool.true_or,Option.isSome_some]
  ·rw[uw e,decide_eq_false e,Bool.false_or];exact Az k r
theorem Ck (kvs:List (κ×V)) (k:κ) (v:V):(putK kvs k v).length≤kvs.length+1:=by
 unfold putK
 split
 ·rw[List.length_map];omega
 ·rw[List.length_append,List.length_cons,List.length_nil];omega
theorem wD.xT {o:Option V}{u:Option Value}(r:wD o u):o.isSome=u.isSome:=by
 cases o with
 |none=>cases u with
  |none=>rfl
  |some _=>exact(show False from r).elim
 |some _=>cases u with
  |none=>exact(show False from r).elim
  |some _=>rfl
theorem wD.getD {o:Option V}{u:Option Value}{d:V}{d':Value}(r:wD o u) (rd:RelV d d'):RelV (o.getD d) (u.getD d'):=by
 cases o with
 |none=>cases u with
  |none=>exact rd
  |some _=>exact(show False from r).elim
 |some _=>cases u with
  |none=>exact(show False from r).elim
  |some _=>exact r
theorem KV.val {kvs:List (κ×V)}{vs:List (κ×Value)}(r:KV kvs vs) (k:κ):wD (mF kvs k) (valueAt vs k):=by
 unfold KV at r
 induction r with
 |nil=>exact True.intro
 | @cons p q ps qs h t ih=>
  obtain⟨h1,h2⟩:=h;by_cases e:p.1=k
  ·have e':q.1=k:=h1.symm.trans e
   have b:valueAt (q::qs) k=some q.2:=by simp[valueAt,List.find?_cons,e']
   rw[xH e,b];exact h2
  ·have e':¬q.1=k:=fun z=>e (h1.trans z)
   have b:valueAt (q::qs) k=valueAt qs k:=by simp[valueAt,List.find?_cons,e']
   rw[uw e,b];exact ih
theorem KV.any {kvs:List (κ×V)}{vs:List (κ×Value)}(r:KV kvs vs) (k:κ):(kvs.any fun kv=>decide (kv.1=k))=vs.any fun kv=>decide (kv.1=k):=by
 unfold KV at r
 induction r with
 |nil=>rfl
 |cons h t ih=>rw[List.any_cons,List.any_cons,ih,h.1]
theorem KV.repl {kvs:List (κ×V)}{vs:List (κ×Value)}(r:KV kvs vs) (k:κ){y:V}{u:Value}(ry:RelV y u):
  KV (kvs.map fun kv=>if kv.1=k then(kv.1,y)else kv) (vs.map fun kv=>if kv.1=k then(kv.1,u)else kv):=by
 unfold KV at r⊢
 induction r with
 |nil=>exact .nil
 | @cons p q ps qs h t ih=>
  rw[List.map_cons,List.map_cons];refine .cons ?_ ih;obtain⟨h1,h2⟩:=h;by_cases e:p.1=k
  ·rw[if_pos e,if_pos (h1.symm.trans e)];exact⟨h1,ry⟩
  ·rw[if_neg e,if_neg (fun z=>e (h1.trans z))];exact⟨h1,h2⟩
theorem KV.put {kvs:List (κ×V)}{vs:List (κ×Value)}(r:KV kvs vs) (k:κ){y:V}{u:Value}(ry:RelV y u):KV (putK kvs k y) (stored vs k u):=by
 unfold putK stored;rw[r.any k];by_cases e:(vs.any fun kv=>decide (kv.1=k))=true
 ·rw[if_pos e,if_pos e];exact r.repl k ry
 ·rw[if_neg e,if_neg e];exact Paired.snoc r ⟨rfl,ry⟩
theorem KV.drop {kvs:List (κ×V)}{vs:List (κ×Value)}(r:KV kvs vs) (k:κ):KV (Jy kvs k) (without vs k):=by
 unfold KV at r⊢;unfold Jy without
 induction r with
 |nil=>exact .nil
 | @cons p q ps qs h t ih=>
  obtain⟨h1,h2⟩:=h;rw[List.filter_cons,List.filter_cons];by_cases e:p.1=k
  ·have a:¬decide (p.1≠k)=true:=by simp[e]
   have b:¬decide (q.1≠k)=true:=by simp[h1.symm.trans e]
   rw[if_neg a,if_neg b];exact ih
  ·have e':¬q.1=k:=fun z=>e (h1.trans z)
   have a:decide (p.1≠k)=true:=by simp[e]
   have b:decide (q.1≠k)=true:=by simp[e']
   rw[if_pos a,if_pos b];exact .cons ⟨h1,h2⟩ ih
theorem KV.length {kvs:List (κ×V)}{vs:List (κ×Value)}(r:KV kvs vs):kvs.length=vs.length:=Paired.length r
theorem afw (kvs:List (κ×V)) (k:κ):(Jy kvs k).length≤kvs.length:=List.length_filter_le _ _
end
theorem Fz {P:Program}{w:World}{k:Key}{u:Value}(r:RelV (kV k) u):(dJ P w).is k u=true:=by
 cases k with
 |inl i=>obtain⟨t,e⟩:=(show∃t,u=Value.int i t from r);subst e;exact Zf P w i t
 |inr x=>obtain⟨t,e⟩:=(show∃t,u=Value.str x t from r);subst e;exact Zg P w x t
theorem Tj {P:Program}{w:World}:∀{ks:List Key}{us:List Value},Vals (ks.map kV) us→ItemsAre (dJ P w) ks us
 |[],_,r=>by rw[List.map_nil]at r;cases r;exact .nil
 |k::ks,_,r=>by
  rw[List.map_cons]at r;cases r with
  |cons h t=>exact .cons (Fz h) (Tj t)
abbrev KT (H:Hp):List (List Key×V)→List (List Key×Addr×Value)→Prop:=Paired fun p q=>p.1=q.1∧H q.2.1=some (.tup (p.1.map kV))∧RelV p.2 q.2.2
theorem KT.val {H:Hp}{kvs:List (List Key×V)}{xs:List (List Key×Addr×Value)}(r:KT H kvs xs) (k:List Key):wD (mF kvs k) ((atKey xs k).map (·.2)):=by
 induction r with
 |nil=>exact True.intro
 | @cons p q ps qs h t ih=>
  obtain⟨h1,_,h2⟩:=h;by_cases e:p.1=k
  ·have e':q.1=k:=h1.symm.trans e
   have b:atKey (q::qs) k=some q.2:=by simp[atKey,List.find?_cons,e']
   rw[xH e,b];exact h2
  ·have e':¬q.1=k:=fun z=>e (h1.trans z)
   have b:atKey (q::qs) k=atKey qs k:=by simp[atKey,List.find?_cons,e']
   rw[uw e,b];exact ih
theorem KT.repl {H:Hp}{kvs:List (List Key×V)}{xs:List (List Key×Addr×Value)}(r:KT H kvs xs) (k:List Key){y:V}{u:Value}(ry:RelV y u):
  KT H (kvs.map fun kv=>if kv.1=k then(kv.1,y)else kv) (xs.map (putAt k u)):=by
 induction r with
 |nil=>exact .nil
 | @cons p q ps qs h t ih=>
  rw[List.map_cons,List.map_cons];refine .cons ?_ ih;obtain⟨h1,h2,h3⟩:=h;unfold putAt;by_cases e:p.1=k
  ·rw[if_pos e,if_pos (h1.symm.trans e)];exact⟨h1,h2,ry⟩
  ·rw[if_neg e,if_neg (fun z=>e (h1.trans z))];exact⟨h1,h2,h3⟩
theorem KT.put {H:Hp}{kvs:List (List Key×V)}{xs:List (List Key×Addr×Value)}(r:KT H kvs xs) (k:List Key){b:Addr}{y:V}{u:Value}(hb:H b=some (.tup (k.map kV))) (ry:RelV y u):
  KT H (putK kvs k y) (storedH xs k b u):=by
 have e:(kvs.any fun kv=>decide (kv.1=k))=(atKey xs k).isSome:=by
  rw[Az,(r.val k).xT,Option.isSome_map]
 unfold putK storedH;rw[e];by_cases q:(atKey xs k).isSome=true
 ·rw[if_pos q,if_pos q];exact r.repl k ry
 ·rw[if_neg q,if_neg q];exact Paired.snoc r ⟨rfl,hb,ry⟩
theorem KT.keeps {H H':Hp}{kvs:List (List Key×V)}{xs:List (List Key×Addr×Value)}(r:KT H kvs xs) (ht:∀b ys,H b=some (.tup ys)→H' b=some (.tup ys)):KT H' kvs xs:=
 Paired.ags r fun _ _ z=>⟨z.1,ht _ _ z.2.1,z.2.2⟩
section
variable {P:Program}{w:World}{H:Hp}{h:Heap}{a:Addr}
theorem adI {u:HO}(ok:nY P w H h) (e:Rd H a u):fD P w H h a u:=e.ok ok
theorem Cm {kvs:List (Key×V)}(ok:nY P w H h) (e:Rd H a (.dK kvs)):kvs.length≤sizeLine∧(a==sysModules)=false∧∃vs,KV kvs vs∧h.DictOf (dJ P w) a vs:=
 show fD P w H h a (.dK kvs)from adI ok e
theorem adJ {kvs:List (Key×V)}(ok:nY P w H h) (e:H a=some (.dK kvs)):kvs.length≤sizeLine∧(a==sysModules)=false∧∃vs,KV kvs vs∧h.DictOf (dJ P w) a vs:=Cm ok (.inl e)
theorem Cp {ks:List Key}(ok:nY P w H h) (e:H a=some (.tup (ks.map kV))):(tupleKind (dJ P w)).is h ks a:=by
 obtain⟨_,its,r,o,h1,h2,n,h3⟩:=(show fD P w H h a (.tup (ks.map kV))from ok a _ e);exact⟨o,its.toArray,n,h1,h2,h3,by simpa using Tj r⟩
theorem Jz {kvs:List (List Key×V)}(ok:nY P w H h) (e:Rd H a (.dT kvs)):kvs.length≤sizeLine∧(a==sysModules)=false∧
  ∃xs,KT H kvs xs∧h.DictOfH (tupleKind (dJ P w)) a xs:=by
 obtain⟨z,y,xs,r,o,es,ep,h1,h2,h3,h4,h5⟩:=(show fD P w H h a (.dT kvs)from adI ok e);refine⟨z,y,xs,r,o,es,ep,h1,h2,h3,h4,fun x hx=>?_,h5⟩;have all:∀{l:List (List Key×V)}{m:List (List Key×Addr×Value)},KT H l m→∀x∈m,(tupleKind (dJ P w)).is h x.1 x.2.1:=by
  intro l m q
  induction q with
  |nil=>intro x hx;exact nomatch hx
  | @cons p q ps qs hq t ih=>
   intro x hx;rcases List.mem_cons.mp hx with e|hx
   ·subst e
    exact Cp ok (by rw[←hq.1];exact hq.2.1)
   ·exact ih x hx
 exact all r x hx
theorem agW {kvs:List (List Key×V)}(ok:nY P w H h) (e:H a=some (.dT kvs)):kvs.length≤sizeLine∧(a==sysModules)=false∧
  ∃xs,KT H kvs xs∧h.DictOfH (tupleKind (dJ P w)) a xs:=Jz ok (.inl e)
end
def pZ (H:Hp) (a:Addr) (y:V) (r:Option V):Prop:=
 (∃kvs k,Rd H a (.dK kvs)∧y=kV k∧r=mF kvs k)∨∃kvs k b,Rd H a (.dT kvs)∧y= .ref b∧H b=some (.tup (k.map kV))∧r=mF kvs k
def K6 (H:Hp) (a:Addr) (y v:V) (H':Hp):Prop:=
 (∃kvs k,H a=some (.dK kvs)∧y=kV k∧kvs.length<sizeLine∧H'=upd H a (.dK (putK kvs k v)))∨
 ∃kvs k b,H a=some (.dT kvs)∧y= .ref b∧H b=some (.tup (k.map kV))∧kvs.length<sizeLine∧H'=upd H a (.dT (putK kvs k v))
theorem pZ.k {H:Hp}{a:Addr}{kvs:List (Key×V)}{k:Key}(e:H a=some (.dK kvs)):pZ H a (kV k) (mF kvs k):= .inl ⟨kvs,k, .inl e,rfl,rfl⟩
theorem pZ.t {H:Hp}{a b:Addr}{kvs:List (List Key×V)}{k:List Key}(e:H a=some (.dT kvs)) (eb:H b=some (.tup (k.map kV))):pZ H a (.ref b) (mF kvs k):= .inr ⟨kvs,k,b, .inl e,rfl,eb,rfl⟩
theorem K6.k {H:Hp}{a:Addr}{kvs:List (Key×V)}{k:Key}{v:V}(e:H a=some (.dK kvs)) (hl:kvs.length<sizeLine):K6 H a (kV k) v (upd H a (.dK (putK kvs k v))):= .inl ⟨kvs,k,e,rfl,hl,rfl⟩
theorem K6.t {H:Hp}{a b:Addr}{kvs:List (List Key×V)}{k:List Key}{v:V}(e:H a=some (.dT kvs)) (eb:H b=some (.tup (k.map kV))) (hl:kvs.length<sizeLine):
  K6 H a (.ref b) v (upd H a (.dT (putK kvs k v))):= .inr ⟨kvs,k,b,e,rfl,eb,hl,rfl⟩
section
variable {X:Cx}{pins:List (Addr×Obj)}{σ:St}{H:Hp}{s:Shared}{a:Addr}{y v:V}{u r:Value}{o:Option V}{A:Around}{E:Value→Shared→Prop}
theorem Inv.big (I:Inv X pins σ H s):sysModules<s.heap.objs.size:=by
 have h:mainGlobals<s.heap.objs.size:=(I.mod.glob.keeps I.bk).lt;exact Nat.lt_trans (by decide) h
theorem adK {Q:Value→Shared→Prop}(hu:A.units+1<cLine) (I:Inv X pins σ H s) (g:pZ H a y (some v)) (ry:RelV y u) (h:∀w' s',Inv X pins σ H s'→RelV v w'→Q w' s'):
  wpAny (model X.prog X.w) A (getItem (.ref a) u) Q E s:=by
 rcases g with⟨kvs,k,e,ey,l⟩|⟨kvs,k,b,e,ey,eb,l⟩
 ·subst ey
  obtain⟨z,hd,vs,rel,dd⟩:=Cm I.hok e;obtain⟨w',hw,Ju⟩:=wD.some_of (v:=v) (o:=valueAt vs k) (by rw[l];exact rel.val k);exact wpAny_getItem_of (Fz ry) dd.mapOf hw (h w' _ (I.tok _) Ju)
 ·subst ey
  cases(show u=Value.ref b from ry);obtain⟨z,hd,xs,rel,dd⟩:=Jz I.hok e;obtain⟨w',hw,Ju⟩:=wD.some_of (v:=v) (o:=(atKey xs k).map (·.2)) (by rw[l];exact rel.val k);obtain⟨p,hp,hp2⟩:=Option.map_eq_some_iff.mp hw;refine wpAny_getItem_heap (tupleKind_room_in1 hu) (Cp I.hok eb) dd hp ?_;rw[hp2];exact h w' _ (I.tok _) Ju
theorem akg {Q:Value→Shared→Prop}(hu:A.units+1<cLine) (I:Inv X pins σ H s) (g:pZ H a y o) (ry:RelV y u) (h:∀s',Inv X pins σ H s'→Q (.bool o.isSome) s'):
  wpAny (model X.prog X.w) A (compareOp .In u (.ref a)) Q E s:=by
 rcases g with⟨kvs,k,e,ey,l⟩|⟨kvs,k,b,e,ey,eb,l⟩
 ·subst ey
  obtain⟨z,hd,vs,rel,dd⟩:=Cm I.hok e;refine wpAny_in_of (Fz ry) hd dd.mapOf ?_;rw[←(rel.val k).xT,←l];exact h _ (I.tok _)
 ·subst ey
  cases(show u=Value.ref b from ry);obtain⟨z,hd,xs,rel,dd⟩:=Jz I.hok e;refine wpAny_in_heap (tupleKind_room_in1 hu) (Cp I.hok eb) hd dd ?_;have q:=(rel.val k).xT;rw[Option.isSome_map]at q;rw[←q,←l];exact h _ (I.tok _)
theorem agX {Q:Value→Shared→Prop}(hu:A.units+1<cLine) (I:Inv X pins σ H s) (g:pZ H a y o) (ry:RelV y u) (h:∀s',Inv X pins σ H s'→Q (.bool (!o.isSome)) s'):
  wpAny (model X.prog X.w) A (compareOp .NotIn u (.ref a)) Q E s:=by
 rcases g with⟨kvs,k,e,ey,l⟩|⟨kvs,k,b,e,ey,eb,l⟩
 ·subst ey
  obtain⟨z,hd,vs,rel,dd⟩:=Cm I.hok e;refine wpAny_notIn_of (Fz ry) hd dd.mapOf ?_;rw[←(rel.val k).xT,←l];exact h _ (I.tok _)
 ·subst ey
  cases(show u=Value.ref b from ry);obtain⟨z,hd,xs,rel,dd⟩:=Jz I.hok e;refine wpAny_notIn_heap (tupleKind_room_in1 hu) (Cp I.hok eb) hd dd ?_;have q:=(rel.val k).xT;rw[Option.isSome_map]at q;rw[←q,←l];exact h _ (I.tok _)
theorem FJ {h':Heap}{t':Nat}{ob:HO}(I:Inv X pins σ H s) (mu:Mut (H a)) (hs:Heap.SameBut a s.heap h') (he:∃q,h'.get? a=some q) (new:fD X.prog X.w (upd H a ob) h' a ob):
  Inv X pins σ (upd H a ob) {s with heap:=h',toks:=t'}:=
 I.write (x:=a) (e:=a) mu (.inl rfl) (fun b q hb z=>(hs.2 b hb).trans z) he new
theorem Zz {P:Program}{w:World}{H':Hp}{h':Heap}{kvs:List (Key×V)}{vs:List (Key×Value)}(z:kvs.length≤sizeLine) (hd:(a==sysModules)=false) (rel:KV kvs vs) (dd:h'.DictOf (dJ P w) a vs):
  fD P w H' h' a (.dK kvs):=⟨z,hd,vs,rel,dd⟩
theorem adL {H':Hp}{Q:Unit→Shared→Prop}(hu:A.units+1<cLine) (I:Inv X pins σ H s) (g:K6 H a y v H') (ry:RelV y u) (rv:RelV v r) (h:∀s',Inv X pins σ H' s'→Q () s'):
  wpAny (model X.prog X.w) A (setItem (.ref a) u r) Q E s:=by
 rcases g with⟨kvs,k,e,ey,l,eH⟩|⟨kvs,k,b,e,ey,eb,l,eH⟩
 ·subst ey eH
  obtain⟨z,hd,vs,rel,dd⟩:=adJ I.hok e;have hz:vs.length≤sizeLine:=by rw[←rel.length];exact z
  have hl:(putK kvs k v).length≤sizeLine:=by have:=Ck kvs k v;omega
  refine wpAny_setItem_pairs (hsz:=hz) (Fz ry) dd fun h' QL hs=>h _ ?_
  have he:∃q,h'.get? a=some q:=let⟨q,_,_,hq,_⟩:=QL;⟨q,hq⟩
  exact FJ I (by rw[e];exact True.intro) hs he (Zz hl hd (rel.put k rv) QL)
 ·subst ey eH
  cases(show u=Value.ref b from ry);obtain⟨z,hd,xs,rel,dd⟩:=agW I.hok e;have hz:xs.length≤sizeLine:=by rw[←Paired.length rel];exact z
  have hl:(putK kvs k v).length≤sizeLine:=by have:=Ck kvs k v;omega
  refine wpAny_setItem_heap (hsz:=hz) (tupleKind_room_in1 hu) (Cp I.hok eb) dd fun h' QL hs=>h _ ?_
  obtain⟨q,es,ep,hq,h2,h3,h4,_,h5⟩:=QL;refine FJ I (by rw[e];exact True.intro) hs ⟨q,hq⟩ ⟨hl,hd,_,(rel.put k eb rv).keeps fun c ys ec=>?_,q,es,ep,hq,h2,h3,h4,h5⟩;rw[aJ (eX ec e (fun z=>nomatch z))];exact ec
end
section
variable {X:Cx}{pins:List (Addr×Obj)}{σ:St}{H:Hp}{s:Shared}{a:Addr}{kvs:List (Key×V)}{k:Key}{u:Value}{A:Around}{E:Value→Shared→Prop}
theorem ajI {v:V}{more:List Value}{Q:Value→Shared→Prop}(I:Inv X pins σ H s) (e:H a=some (.dK kvs)) (ry:RelV (kV k) u) (l:mF kvs k=some v) (hm:more=[]∨∃x,more=[x])
  (h:∀w' s',Inv X pins σ (upd H a (.dK (Jy kvs k))) s'→RelV v w'→Q w' s'):wpAny (model X.prog X.w) A (call (.builtin "dict.pop") (.ref a::u::more)) Q E s:=by
 obtain⟨z,hd,vs,rel,dd⟩:=adJ I.hok e;obtain⟨w',hw,Ju⟩:=wD.some_of (v:=v) (o:=valueAt vs k) (by rw[←l];exact rel.val k);have hp:(keyPart u).isSome=true:=by
  cases k with
  |inl i=>obtain⟨t,q⟩:=(show∃t,u=Value.int i t from ry);subst q;rfl
  |inr x=>obtain⟨t,q⟩:=(show∃t,u=Value.str x t from ry);subst q;rfl
 have ha:argsOk "dict.pop" ⟨.ref a::u::more,[]⟩:=by
  rcases hm with q|⟨x,q⟩
  ·subst q;exact PySem.F.args_dict_pop_2 _ _
  ·subst q;exact PySem.F.args_dict_pop_3 _ _ _
 refine call_meetsIn PySem.F.slot_dict_pop dd.typeIs PySem.F.entry_dict_pop ha (meets_dict_pop_there (dJ X.prog X.w) a (Fz ry) more hm hp)
  ⟨vs,w',dd,by rw[←rel.length];exact z,hw,fun h' QL hs=>h w' _ ?_ Ju⟩
 have he:∃q,h'.get? a=some q:=let⟨q,_,_,hq,_⟩:=QL;⟨q,hq⟩
 exact FJ I (by rw[e];exact True.intro) hs he (Zz (Nat.le_trans (afw kvs k) z) hd (rel.drop k) QL)
theorem ajJ {Q:Value→Shared→Prop}(I:Inv X pins σ H s) (e:Rd H a (.dK kvs)) (h:∀t s',Inv X pins σ H s'→Q (.int kvs.length t) s'):wpAny (model X.prog X.w) A (call (.builtin "len") [.ref a]) Q E s:=by
 obtain⟨z,hd,vs,rel,dd⟩:=Cm I.hok e;refine call_len_dict hd dd (by rw[←rel.length];rw[sizeLine_eq]at z;omega) ?_;rw[←rel.length];exact h _ _ (I.tok _)
end
def ajr (i:Expr):Prop:=∀ov iv,subscripted i false ov iv=operate [ov,iv] (getItem ov iv)
theorem agY {prog:Program}{w:World}{A:Around}{E:Value→Shared→Prop}{s:Shared}{env:Env}{value slice:Expr}{pos:Pos}{T id:String}{Q:Value→Shared→Prop}
  (hl:typeLookup (.type T) "__getitem__"=pure (some (.builtin id))) (hs:ajr slice)
  (h:wpAny (model prog w) A (eval value env) (fun o s₁=>wpAny (model prog w) A (eval slice env) (fun i s₂=>s₂.TypeIs o T∧wpAny (model prog w) A (getItem o i) Q E s₂) E s₁) E s):
  wpAny (model prog w) A (eval (.Subscript value slice pos) env) Q E s:=by
 refine Subscript_ (wpAny_mono h (fun o s₁ h₁=>wpAny_mono h₁ (fun i s₂ h₂=>?_) fun _ _ x=>x) fun _ _ x=>x);obtain⟨hT,h₂⟩:=h₂;unfold subscriptTail;refine wpAny_bind ?_;rw[getitemInPython_of_ne hT.not_modules];refine wpAny_bind (wpAny_specialOf hT hl ?_);have fin:wpAny (model prog w) A (subscripted slice false o i) (fun r s₃=>wpAny (model prog w) A (letTemporaryGo value o r >>= fun _=>pure r) Q E s₃) E s₂:=by
  rw[hs o i];exact wpAny_operating (wpAny_mono h₂ (fun r s₃ h₃=>wpAny_bind (wpAny_letTemporaryGo (wpAny_pure h₃))) fun _ _ x=>x)
 first
  |exact wpAny_pure (wpAny_bind fin)
  |exact wpAny_bind (wpAny_pure (wpAny_bind fin))
  |exact wpAny_bind fin
theorem ZC {X:Cx}{pins:List (Addr×Obj)}{σ:St}{H:Hp}{s:Shared}{a:Addr}{y:V}{o:Option V}(I:Inv X pins σ H s) (g:pZ H a y o):s.TypeIs (.ref a) "dict":=by
 rcases g with⟨kvs,k,e,_,_⟩|⟨kvs,k,b,e,_,_,_⟩
 ·obtain⟨_,_,vs,_,dd⟩:=Cm I.hok e
  exact dd.typeIs
 ·obtain⟨_,_,xs,_,dd⟩:=Jz I.hok e
  exact dd.typeIs
def agZ (td ty:TE):TE:=fun σ H Q=>td σ H fun x H1=>ty σ H1 fun y H2=>∃a v,x= .ref a∧pZ H2 a y (some v)∧Q v H2
def ajs (ty td:TE):TE:=fun σ H Q=>ty σ H fun y H1=>td σ H1 fun x H2=>∃a o,x= .ref a∧pZ H2 a y o∧Q (.bl o.isSome) H2
def K7 (ty td:TE):TE:=fun σ H Q=>ty σ H fun y H1=>td σ H1 fun x H2=>∃a o,x= .ref a∧pZ H2 a y o∧Q (.bl (!o.isSome)) H2
def adM (td ty tv:TE):TS:=fun D σ H=>tv σ H fun v H1=>td σ H1 fun x H2=>ty σ H2 fun y H3=>∃a H4,x= .ref a∧K6 H3 a y v H4∧D.nx σ H4
section
variable {X:Cx}{o i e value:Expr}{pos pos' tpos:Pos}{td ty tv:TE}
theorem abK (hu:X.A.units+1<cLine) (ho:PE X o td) (hi:PE X i ty) (hs:ajr i):PE X (.Subscript o i pos) (agZ td ty):=by
 intro pins s σ H Q I h;refine agY PySem.F.slot_dict_getitem.lookup hs (cN (ho pins s σ H _ I h) fun u s1 ⟨x,H1,I1,rx,q1⟩=>cN (hi pins s1 σ H1 _ I1 q1) fun iv s2 ⟨y,H2,I2,ry,a,v,ex,g,q2⟩=>?_);subst ex;obtain rfl:u=Value.ref a:=rx;exact⟨ZC I2 g,adK hu I2 g ry fun w' s3 I3 Ju=>⟨v,H2,I3,Ju,q2⟩⟩
theorem aeW (hu:X.A.units+1<cLine) (hi:PE X i ty) (ho:PE X o td):PC X .In i o (ajs ty td):=by
 intro pins s σ H Q I h;refine cN (hi pins s σ H _ I h) fun iv s1 ⟨y,H1,I1,ry,q1⟩=>cN (ho pins s1 σ H1 _ I1 q1) fun u s2 ⟨x,H2,I2,rx,a,ov,ex,g,q2⟩=>?_
 subst ex;obtain rfl:u=Value.ref a:=rx;exact akg hu I2 g ry fun s3 I3=>⟨.bl ov.isSome,H2,I3,rfl,q2⟩
theorem Cq (hu:X.A.units+1<cLine) (hi:PE X i ty) (ho:PE X o td):PC X .NotIn i o (K7 ty td):=by
 intro pins s σ H Q I h;refine cN (hi pins s σ H _ I h) fun iv s1 ⟨y,H1,I1,ry,q1⟩=>cN (ho pins s1 σ H1 _ I1 q1) fun u s2 ⟨x,H2,I2,rx,a,ov,ex,g,q2⟩=>?_
 subst ex;obtain rfl:u=Value.ref a:=rx;exact agX hu I2 g ry fun s3 I3=>⟨.bl (!ov.isSome),H2,I3,rfl,q2⟩
theorem Tn (hu:X.A.units+1<cLine) (ho:PE X o td) (hi:PE X i ty) (hv:PE X value tv) (hs:swapsWith value (some (.Subscript o i pos')) pos.line X.env=pure false):
  PS X (.Assign [.Subscript o i pos'] value pos) (adM td ty tv):=by
 intro pins s σ H D I h;refine wpAny_Assign_Subscript (cN (hv pins s σ H _ I h) fun r s1 ⟨v,H1,I1,rv,q1⟩=>cN (ho pins s1 σ H1 _ I1 q1) fun u s2 ⟨x,H2,I2,rx,q2⟩=>cN (hi pins s2 σ H2 _ I2 q2) fun iv s3 ⟨y,H3,I3,ry,a,H4,ex,g,q3⟩=>?_) hs;subst ex;obtain rfl:u=Value.ref a:=rx;exact adL hu I3 g ry rv fun s4 I4=>⟨σ,H4,I4,q3⟩
end
theorem Yt {P:Program}{w:World}{H:Hp}(h:Heap) (hb:sysModules<h.objs.size):fD P w H (h.push {cls:= .type "dict",data:= .dict #[]}) h.objs.size (.dK []):=
 ⟨Nat.zero_le _,beq_eq_false_iff_ne.mpr (Ne.symm (Nat.ne_of_lt hb)),[], .nil,Heap.DictOf.new h⟩
theorem afx {P:Program}{w:World}{H:Hp}(h:Heap) (hb:sysModules<h.objs.size):fD P w H (h.push {cls:= .type "dict",data:= .dict #[]}) h.objs.size (.dT []):=
 ⟨Nat.zero_le _,beq_eq_false_iff_ne.mpr (Ne.symm (Nat.ne_of_lt hb)),[], .nil,_,#[],0,Heap.get?_push_size _ rfl,⟨rfl,rfl,rfl⟩,rfl,rfl,List.nodup_nil⟩
def aix:TE:=fun _ H Q=>∀p,H p=none→Q (.ref p) (upd H p (.dK []))
section
variable {X:Cx}{pos:Pos}
theorem afy:PE X (.Dict [] [] pos) aix:=fun pins s σ H Q I h=>
 wpAny_Dict_empty ⟨.ref s.heap.objs.size,_,I.laid (a:=s.heap.objs.size) (o:= .dK []) (t':=s.toks) (fun _ _ q=>Heap.get?_push_of_some _ q) (Nat.le_refl _) (Yt s.heap I.big),rfl,h _ (I.hok.fresh (Nat.le_refl _))⟩
end
def R5:List (TE×TE)→St→Hp→(List (V×V)→Hp→Prop)→Prop
 |[],_,H,Q=>Q [] H
 |(tk,tv)::r,σ,H,Q=>tk σ H fun x H1=>tv σ H1 fun y H2=>R5 r σ H2 fun ps H3=>Q ((x,y)::ps) H3
abbrev VV:List (V×V)→List (Value×Value)→Prop:=Paired fun p q=>RelV p.1 q.1∧RelV p.2 q.2
def PPs (X:Cx) (pos:Pos) (keys:List (Option Expr)) (values:List Expr) (K8:List (TE×TE)):Prop:=
 ∀(pins:List (Addr×Obj)) (s:Shared) (σ:St) (H:Hp) (Q:List (V×V)→Hp→Prop),Inv X pins σ H s→R5 K8 σ H Q→
  wpAny (model X.prog X.w) X.A (evalPairs (pairTrees keys values X.env pos)) (fun vs s'=>∃ps H',Inv X pins σ H' s'∧VV ps vs∧Q ps H') X.xe s
theorem abL {X:Cx}{pos:Pos}:PPs X pos [] [] []:=fun pins s σ H Q I h=>pairTrees_nil_walk ⟨[],H,I, .nil,h⟩
theorem Yu {X:Cx}{pos:Pos}{k v:Expr}{ks:List (Option Expr)}{vs:List Expr}{tk tv:TE}{K8:List (TE×TE)}(hk:PE X k tk) (hv:PE X v tv) (hr:PPs X pos ks vs K8):
  PPs X pos (some k::ks) (v::vs) ((tk,tv)::K8):=fun pins s σ H Q I h=>
 pairTrees_cons_walk (cN (hk pins s σ H _ I h) fun u s1 ⟨x,H1,I1,rx,q1⟩=>cN (hv pins s1 σ H1 _ I1 q1) fun w2 s2 ⟨y,H2,I2,ry,q2⟩=>
  cN (hr pins s2 σ H2 _ I2 q2) fun ws s3 ⟨ps,H3,I3,rel,q3⟩=>⟨(x,y)::ps,H3,I3, .cons ⟨rx,ry⟩ rel,q3⟩)
def Hy (kvs more:List (Key×V)):List (Key×V):=more.foldl (fun acc kv=>putK acc kv.1 kv.2) kvs
theorem KV.merge:∀{more:List (Key×V)}{rs:List (Key×Value)}{kvs:List (Key×V)}{vs:List (Key×Value)},KV more rs→KV kvs vs→KV (Hy kvs more) (merged vs rs):=by
 intro more rs kvs vs r;unfold KV at r
 induction r generalizing kvs vs with
 |nil=>intro q;exact q
 | @cons p q ps qs h t ih=>
  intro r0;have e:KV (putK kvs p.1 p.2) (stored vs q.1 q.2):=by
   have:=r0.put p.1 h.2;rw[←h.1];exact this
  exact ih e
theorem FN:∀(more kvs:List (Key×V)),(Hy kvs more).length≤kvs.length+more.length
 |[],kvs=>by show kvs.length≤kvs.length+0;omega
 |p::r,kvs=>by
  have h1:=FN r (putK kvs p.1 p.2);have h2:=Ck kvs p.1 p.2;show(Hy (putK kvs p.1 p.2) r).length≤_;rw[List.length_cons];omega
theorem Qk {P:Program}{w:World}:∀{kvs:List (Key×V)}{ws:List (Value×Value)},VV (kvs.map fun kv=>(kV kv.1,kv.2)) ws→∃rs,Carries (dJ P w) ws rs∧KV kvs rs
 |[],_,r=>by rw[List.map_nil]at r;cases r;exact⟨[],True.intro, .nil⟩
 |p::kvs,_,r=>by
  rw[List.map_cons]at r;cases r with
  | @cons a b as bs h t=>
   obtain⟨rs,c,q⟩:=Qk (P:=P) (w:=w) t;obtain⟨b1,b2⟩:=b;exact⟨(p.1,b2)::rs,⟨Fz h.1,rfl,c⟩, .cons ⟨rfl,h.2⟩ q⟩
def ajK (K8:List (TE×TE)):TE:=fun σ H Q=>∀p,H p=none→R5 K8 σ (upd H p (.dK [])) fun ps H2=>H2 p=some (.dK [])∧∃kvs:List (Key×V),ps=kvs.map (fun kv=>(kV kv.1,kv.2))∧kvs.length≤15∧Q (.ref p) (upd H2 p (.dK (Hy [] kvs)))
theorem ag0 {X:Cx}{pos:Pos}{keys:List (Option Expr)}{values:List Expr}{K8:List (TE×TE)}(h:PPs X pos keys values K8) (hall:keys.all (·.isSome)=true) (hl:keys.length=values.length) (h0:keys≠[])
  (h15:keys.length≤15):PE X (.Dict keys values pos) (ajK K8):=by
 intro pins s σ H Q I q;have hn:=I.hok.fresh (Nat.le_refl s.heap.objs.size);have I1:=I.laid (a:=s.heap.objs.size) (o:= .dK []) (h':=s.heap.push {cls:= .type "dict",data:= .dict #[]}) (t':=s.toks) (fun _ _ q=>Heap.get?_push_of_some _ q) (Nat.le_refl _) (Yt s.heap I.big);refine wpAny_Dict_walk (knd:=dJ X.prog X.w) hall hl h0 h15 (cN (h pins _ σ _ _ I1 (q _ hn)) fun ws s2 ⟨ps,H2,I2,rel,e,kvs,ep,lk,q2⟩=>?_);subst ep;obtain⟨rs,c,rk⟩:=Qk (P:=X.prog) (w:=X.w) rel;obtain⟨z,hd,vs0,r0,dd⟩:=adJ I2.hok e;cases r0;refine⟨rs,c,dd,fun h' QL hs=>⟨.ref s.heap.objs.size,_,?_,rfl,q2⟩⟩;have hz:(Hy [] kvs).length≤sizeLine:=by
  have h1:=FN kvs [];rw[List.length_nil]at h1;rw[sizeLine_eq];omega
 have he:∃q,h'.get? s.heap.objs.size=some q:=let⟨q,_,_,hq,_⟩:=QL;⟨q,hq⟩
 exact FJ I2 (by rw[e];exact True.intro) hs he (Zz hz hd (rk.merge .nil) QL)
structure M1 (X:Cx) (o:Expr) (m:Str) (apos:Pos) (e:Expr) (cpos:Pos):Prop where
 base:attributeBase o m X.env (eval o X.env)=eval o X.env
 few:((backTo cpos (starEach [e] X.env)).all (fun x=> !x.1)&&(backToKw cpos (keywordEach [] X.env)).all (fun x=>x.1.isSome)
  &&decide (([e]:List Expr).length+([]:List Keyword).length+(if ([]:List Keyword).isEmpty then 0 else 1)<30))=true
 line:(apos.endLine==cpos.line)=true
 trees:backTo cpos (starEach [e] X.env)=[(false,eval e X.env)]
def IsD (H:Hp) (a:Addr):Prop:=(∃kvs,Rd H a (.dK kvs))∨∃kvs,Rd H a (.dT kvs)
theorem aeX {X:Cx}{pins:List (Addr×Obj)}{σ:St}{H:Hp}{s:Shared}{a:Addr}(I:Inv X pins σ H s) (d:IsD H a):
  s.TypeIs (.ref a) "dict"∧(∀b,Value.ref a= .ref b→∃ob,s.heap.get? b=some ob∧ob.dict=none)∧(a==sysModules)=false:=by
 rcases d with⟨kvs,e⟩|⟨kvs,e⟩
 ·obtain⟨_,hd,vs,_,dd⟩:=Cm I.hok e
  refine⟨dd.typeIs,fun b q=>?_,hd⟩;cases q;obtain⟨ob,_,_,h1,h2,_⟩:=dd;exact⟨ob,h1,h2.2.1⟩
 ·obtain⟨_,hd,xs,_,dd⟩:=Jz I.hok e
  refine⟨dd.typeIs,fun b q=>?_,hd⟩;cases q;obtain⟨ob,_,_,h1,h2,_⟩:=dd;exact⟨ob,h1,h2.2.1⟩
section
variable {X:Cx}{pins:List (Addr×Obj)}{σ:St}{H:Hp}{s:Shared}{a:Addr}{y d:V}{u r:Value}{o:Option V}{A:Around}{E:Value→Shared→Prop}
theorem aiy {Q:Value→Shared→Prop}(hu:A.units+1<cLine) (I:Inv X pins σ H s) (g:pZ H a y o) (ry:RelV y u) (h:∀w' s',Inv X pins σ H s'→RelV (o.getD .non) w'→Q w' s'):
  wpAny (model X.prog X.w) A (call (.builtin "dict.get") [.ref a,u]) Q E s:=by
 rcases g with⟨kvs,k,e,ey,l⟩|⟨kvs,k,b,e,ey,eb,l⟩
 ·subst ey
  obtain⟨z,hd,vs,rel,dd⟩:=Cm I.hok e;refine call_meetsIn PySem.F.slot_dict_get dd.typeIs PySem.F.entry_dict_get (PySem.F.args_dict_get_2 _ _) (meets_dict_get (dJ X.prog X.w) a (Fz ry) hd) ⟨_,dd.mapOf,h _ _ (I.tok _) ?_⟩;rw[l];exact(rel.val k).getD rfl
 ·subst ey
  cases(show u=Value.ref b from ry);obtain⟨z,hd,xs,rel,dd⟩:=Jz I.hok e;refine call_meetsIn PySem.F.slot_dict_get dd.typeIs PySem.F.entry_dict_get (PySem.F.args_dict_get_2 _ _) (meetsH_dict_get (tupleKind (dJ X.prog X.w)) a b hd) ⟨tupleKind_room_in1 hu,k,xs,Cp I.hok eb,dd,h _ _ (I.tok _) ?_⟩;rw[l];exact(rel.val k).getD rfl
end
def aeY (td ty:TE):TE:=fun σ H Q=>td σ H fun x H1=>∃a,x= .ref a∧IsD H1 a∧ty σ H1 fun y H2=>∃o,pZ H2 a y o∧Q (o.getD .non) H2
def aeZ (td ty:TE):TE:=fun σ H Q=>td σ H fun x H1=>∃a,x= .ref a∧IsD H1 a∧ty σ H1 fun y H2=>∃kvs k v,H2 a=some (.dK kvs)∧y=kV k∧mF kvs k=some v∧Q v (upd H2 a (.dK (Jy kvs k)))
section
variable {X:Cx}{o e f:Expr}{apos cpos:Pos}{td ty tx:TE}
theorem afz (hu:X.A.units+1<cLine) (ho:PE X o td) (he:PE X e ty) (m:M1 X o "get" apos e cpos):PE X (.Call (.Attribute o "get" apos) [e] [] cpos) (aeY td ty):=by
 intro pins s σ H Q I h;refine wpAny_Call_method m.base m.few m.line PySem.F.plainAttrs_dict PySem.F.slot_dict_get PySem.F.type_dict_get (cN (ho pins s σ H _ I h) fun u s1 ⟨x,H1,I1,rx,a,ex,d,q1⟩=>?_);subst ex;obtain rfl:u=Value.ref a:=rx;obtain⟨t1,t2,_⟩:=aeX I1 d;refine⟨t1,t2,?_⟩;rw[m.trees];refine Calls.callWith_builtin rfl (Calls.evalArgs_plain (Calls.spliced_cons (cN (he pins s1 σ H1 _ I1 q1) fun iv s2 ⟨y,H2,I2,ry,ov,g,q2⟩=>Calls.spliced_nil ?_)));exact aiy hu I2 g ry fun w' s3 I3 Ju=>⟨_,H2,I3,Ju,q2⟩
theorem afA (ho:PE X o td) (he:PE X e ty) (m:M1 X o "pop" apos e cpos):PE X (.Call (.Attribute o "pop" apos) [e] [] cpos) (aeZ td ty):=by
 intro pins s σ H Q I h;refine wpAny_Call_method m.base m.few m.line PySem.F.plainAttrs_dict PySem.F.slot_dict_pop PySem.F.type_dict_pop (cN (ho pins s σ H _ I h) fun u s1 ⟨x,H1,I1,rx,a,ex,d,q1⟩=>?_);subst ex;obtain rfl:u=Value.ref a:=rx;obtain⟨t1,t2,_⟩:=aeX I1 d;refine⟨t1,t2,?_⟩;rw[m.trees];refine Calls.callWith_builtin rfl (Calls.evalArgs_plain (Calls.spliced_cons (cN (he pins s1 σ H1 _ I1 q1) fun iv s2 ⟨y,H2,I2,ry,kvs,k,v,ea,ey,l,q2⟩=>Calls.spliced_nil ?_)));subst ey;exact ajI I2 ea ry l (.inl rfl) fun w' s3 I3 Ju=>⟨v,_,I3,Ju,q2⟩
end
end L2
namespace L2
open PySem PySem.Spec PyProof.Rows
section
variable {X:Cx}{pins:List (Addr×Obj)}{σ:St}{H:Hp}{s:Shared}{h':Heap}
theorem Inv.ag1 {t':Nat}{ch:List Addr}(I:Inv X pins σ H s) (k:∀b o,b∉ch→s.heap.get? b=some o→h'.get? b=some o) (hf:∀b∈ch,Es X pins H b):Inv X pins σ H {s with heap:=h',toks:=t'}:=by
 have nit:∀b u,H b=some u→b∉ch:=fun b u e z=>by
  have q:=(hf b z).1;rw[q]at e;cases e
 refine I.step (g':=s.gens) (d':=s.drawn) (ch:=ch) (fun b hb=>⟨(hf b hb).2.2.2.1,(hf b hb).2.1,(hf b hb).2.2.2.2.1,(hf b hb).2.2.2.2.2⟩) (fun b o _ _ hc e _=>k b o hc e) (fun b o _ _ hc e _=>⟨o.slots,k b o hc e⟩)
  (fun _ _ _ _ n=>n) (fun b o hc e=>⟨o,k b o hc e⟩) (fun _ _ e=>e) (fun _ _ _ e=>e) (fun b ps e=>⟨#[],by rw[e];simp⟩) (fun m hm=>?_) (fun b u e=>?_) I.bare
 ·obtain⟨o,es,ep,ho,r⟩:=hm
  exact⟨o,es,ep,k _ o (fun z=>(hf _ z).2.1 rfl) ho,r⟩
 ·refine(I.hok b u e).stay (fun c v hc q=>k c v ?_ q) (fun _ q=>q) fun _ _ q=>q
  rcases hc with z|z
  ·rw[z];exact nit b u e
  ·exact nit c _ z
theorem Inv.JB {t':Nat}{ch:List Addr}{T:Addr}{ob:HO}(I:Inv X pins σ H s) (k:∀b o,b∉ch→s.heap.get? b=some o→h'.get? b=some o) (hf:∀b∈ch,Es X pins H b) (hT:s.heap.objs.size≤T)
  (new:fD X.prog X.w (upd H T ob) h' T ob):Inv X pins σ (upd H T ob) {s with heap:=h',toks:=t'}:=by
 have hn:H T=none:=I.hok.fresh hT;have nit:∀b u,H b=some u→b∉ch:=fun b u e z=>by
  have q:=(hf b z).1;rw[q]at e;cases e
 refine I.step (g':=s.gens) (d':=s.drawn) (ch:=ch) (fun b hb=>⟨(hf b hb).2.2.2.1,(hf b hb).2.1,(hf b hb).2.2.2.2.1,(hf b hb).2.2.2.2.2⟩) (fun b o _ _ hc e _=>k b o hc e) (fun b o _ _ hc e _=>⟨o.slots,k b o hc e⟩)
  (fun b o _ e n=>?_) (fun b o hc e=>⟨o,k b o hc e⟩) (fun b xs e=>?_) (fun b o u e=>?_) (fun b ps e=>⟨#[],?_⟩) (fun m hm=>?_) (fun b u e=>?_) I.bare
 ·rw[aJ (Nat.ne_of_lt (Nat.lt_of_lt_of_le (Heap.lt_size e) hT))];exact n
 ·rw[aJ (aQ e hn)];exact e
 ·rw[aJ (aQ e hn)];exact e
 ·rw[aJ (aQ e hn),e];simp
 ·obtain⟨o,es,ep,ho,r⟩:=hm
  exact⟨o,es,ep,k _ o (fun z=>(hf _ z).2.1 rfl) ho,r⟩
 ·by_cases hb:b=T
  ·subst hb
   rw[aq]at e;cases e;exact new
  ·rw[aJ hb]at e
   refine(I.hok b u e).stay (fun c v hc q=>k c v ?_ q) (fun c q=>by rw[aJ (aQ q hn)];exact q) fun c xs q=>by rw[aJ (aQ q hn)];exact q
   rcases hc with z|z
   ·rw[z];exact nit b u e
   ·exact nit c _ z
theorem Inv.lock {d:Addr}{u:HO}(I:Inv X pins σ H s) (h:H d=some u) (mu:Mut (some u)):∃od,Inv X pins σ (upd H d (.cM od u)) s:=by
 have x:=I.hok d u h;have ex:∃od,s.heap.get? d=some od:=by
  cases u with
  |lst xs=>obtain⟨_,_,_,_,e⟩:=x;exact⟨_,e⟩
  |dK kvs=>obtain⟨_,_,_,_,o,_,_,e,_⟩:=x;exact⟨o,e⟩
  |dT kvs=>obtain⟨_,_,_,_,o,_,_,e,_⟩:=x;exact⟨o,e⟩
  |set S n=>obtain⟨o,_,_,_,e,_⟩:=x;exact⟨o,e⟩
  |ins C dx fs=>obtain⟨_,_,_,e,_⟩:=x;exact⟨_,e⟩
  |ext φ=>obtain⟨_,⟨_,e⟩,_⟩:=x;exact⟨_,e⟩
  |_=>exact False.elim mu
 obtain⟨od,e⟩:=ex;have new:fD X.prog X.w (upd H d (.cM od u)) s.heap d (.cM od u):=by
  refine⟨e,x.stay (fun b v _ q=>q) (fun b q=>?_) fun b xs q=>?_⟩
  ·rw[aJ (fun z=>by rw[z,h]at q;cases q;exact mu)];exact q
  ·rw[aJ (fun z=>by rw[z,h]at q;cases q;exact mu)];exact q
 exact⟨od,I.write (x:=d) (e:=d) (t':=s.toks) (h':=s.heap) (by rw[h];exact mu) (.inl rfl) (fun b v _ q=>q) ⟨od,e⟩ new⟩
theorem Inv.NQ {d:Addr}{u:HO}(I:Inv X pins σ H s) (h:H d=some u) (mu:Mut (some u)):∀o' u',X.Nr d≠some (.cM o' u'):=fun o' u' e=>by
 have q:=I.base.Fo d o' u' e;rw[h]at q;cases q;exact mu
theorem Inv.unlock {d:Addr}{od:Obj}{u:HO}(I:Inv X pins σ H s) (h:H d=some (.cM od u)) (hn:∀o' u',X.Nr d≠some (.cM o' u')):Inv X pins σ (upd H d u) s:=by
 have neH:∀b o,H b=some o→(∀o' u',o≠ .cM o' u')→b≠d:=fun b o e hne z=>by
  rw[z,h]at e;cases e;exact hne _ _ rfl
 have neN:∀b,H b=none→b≠d:=fun b e z=>by rw[z,h]at e;cases e
 refine⟨I.ok,I.os,I.bare,⟨I.base.keep,I.base.slot,fun b o e n hx=>?_,I.base.there,fun b xs e=>?_,fun b o x e=>?_,fun b ps e=>?_⟩,I.loc,I.cell,?_,fun x c e=>?_,fun p hp=>?_,fun b o e=>?_,I.len⟩
 ·rw[aJ (neN b (I.base.free b o e n hx))];exact I.base.free b o e n hx
 ·have q:=I.base.tups b xs e
  rw[aJ (neH b _ q (fun _ _ z=>nomatch z))];exact q
 ·have q:=I.base.Fo b o x e
  rw[aJ (fun z=>by rw[z]at e;exact hn _ _ e)];exact q
 ·obtain⟨m,q⟩:=I.base.Kw b ps e
  exact⟨m,by rw[aJ (neH b _ q (fun _ _ z=>nomatch z))];exact q⟩
 ·rw[aJ (neN _ I.free)];exact I.free
 ·rw[aJ (neN c (I.rT x c e))];exact I.rT x c e
 ·obtain⟨e,n,r⟩:=I.pin p hp
  exact⟨e,by rw[aJ (neN _ n)];exact n,r⟩
 ·by_cases hb:b=d
  ·rw[hb,aq]at e
   cases e;rw[hb];obtain⟨_,x⟩:=I.hok d _ h;exact x.stay (fun c v _ q=>q) (fun c q=>by rw[aJ (neH c _ q (fun _ _ z=>nomatch z))];exact q) fun c xs q=>by rw[aJ (neH c _ q (fun _ _ z=>nomatch z))];exact q
  ·rw[aJ hb]at e
   exact(I.hok b o e).stay (fun c v _ q=>q) (fun c q=>by rw[aJ (neH c _ q (fun _ _ z=>nomatch z))];exact q) fun c xs q=>by rw[aJ (neH c _ q (fun _ _ z=>nomatch z))];exact q
end
def ajL (t:TS):TS:=fun D σ H=>∃d u,H d=some u∧Mut (some u)∧∀od,t ⟨fun σ' H'=>H' d=some (.cM od u)∧D.nx σ' (upd H' d u),fun v H'=>H' d=some (.cM od u)∧D.rt v (upd H' d u),fun σ' H'=>H' d=some (.cM od u)∧D.bk σ' (upd H' d u),fun σ' H'=>H' d=some (.cM od u)∧D.ct σ' (upd H' d u)⟩ σ (upd H d (.cM od u))
section
variable {X:Cx}
theorem Tp {st:Stmt}{t:TS}(h:PS X st t):PS X st (ajL t):=by
 intro pins s σ H D I hw;obtain⟨d,u,hd,mu,hw⟩:=hw;obtain⟨od,I1⟩:=I.lock hd mu;refine cN (h pins s σ _ _ I1 (hw od)) fun f s1 q=>?_
 cases f with
 |next=>obtain⟨σ',H',I2,e,q⟩:=q;exact⟨σ',_,I2.unlock e (I.NQ hd mu),q⟩
 |brk=>obtain⟨σ',H',I2,e,q⟩:=q;exact⟨σ',_,I2.unlock e (I.NQ hd mu),q⟩
 |cont=>obtain⟨σ',H',I2,e,q⟩:=q;exact⟨σ',_,I2.unlock e (I.NQ hd mu),q⟩
 |ret v=>obtain⟨x,σ',H',I2,r,e,q⟩:=q;exact⟨x,σ',_,I2.unlock e (I.NQ hd mu),r,q⟩
theorem R6 {tg:Expr}{pins:List (Addr×Obj)}{σ:St}{H:Hp}{s:Shared}{R:It→Hp→Prop}{J:It}{tn:Nat→Heap→Prop}{tk:Nat}(I:Inv X pins σ H s) (o:Obj)
  (T:Turn X.prog X.w X.K tg J [s.heap.objs.size] s.heap.objs.size tn) (st:tn 0 (s.heap.push o)) (q:R J H):PIE X pins σ tg R (.ref s.heap.objs.size) {s with heap:=s.heap.push o,toks:=tk}:=by
 refine⟨s.heap.objs.size,[s.heap.objs.size],tn,J,H,rfl,I.kept fun b ob e=>Heap.get?_push_of_some _ e,T,st,fun b hb=>?_,q⟩;have e:b=s.heap.objs.size:=by simpa using hb
 subst e;exact I.Ym (Nat.le_refl _) (I.hok.fresh (Nat.le_refl _))
end
section
variable {prog:Program}{w:World}{A:Around}{E:Value→Shared→Prop}{s:Shared}
theorem Cr {d:Addr}{o:Obj}{es:Array DictEntry}{ep:Nat}{Q:Value→Shared→Prop}(hd:(d==sysModules)=false) (ho:s.heap.get? d=some o) (hc:o.ExactDict) (hdat:o.data= .dict es ep)
  (hQ:Q (.ref s.heap.objs.size) {s with heap:=s.heap.push {cls:= .type "dict_keyiterator",data:= .fields #[.ref d, .int 0 0, .int es.size 0, .int ep 0]}}):
  wpAny (model prog w) A (pyIter (.ref d)) Q E s:=by
 have hT:s.TypeIs (.ref d) "dict":=⟨o,ho,hc.1⟩;refine wpAny_pyIter_slot hT F.slot_dict_iter (wpAny_call_entry F.slot_dict_iter hT F.entry_dict_iter ?_ (F.args_dict_iter_1 _));unfold Builtin.«dict.__iter__»;refine wpAny_bind ?_;unfold Builtin.Dict.dictSlotNone;refine wpAny_bind (wpAny_notOrdered_dict hT ?_);show wpAny _ _ (pure (Value.ref d)) _ _ s;refine wpAny_pure ?_;show wpAny _ _ (Builtin.Dict.showsAll d >>= _) _ _ s;unfold Builtin.Dict.showsAll;rw[if_neg (by rw[hd];exact Bool.false_ne_true)];refine wpAny_bind (wpAny_pure ?_);refine wpAny_bind (wpAny_dictEntries ho hdat ?_);refine wpAny_bind (wpAny_dictEpoch ho hdat ?_);refine wpAny_bind (wpAny_newObj_type (wpAny_pure ⟨_,rfl,"dict_keyiterator",_,⟨_,Heap.get?_push_size _ rfl,rfl⟩,F.slot_dict_keyiterator_next.lookup,?_⟩));simpa[rawInt]using hQ
theorem FP {it d:Addr}{i n ep:Nat}{od:Obj}{es:Array DictEntry}{en:DictEntry}{Q:Option Value→Shared→Prop}(hit:s.heap.IsKeyIter it d i n ep) (hod:s.heap.get? d=some od) (hdd:od.data= .dict es ep)
  (hsz:es.size=n) (hx:es[i]?=some en) (hQ:∀h',h'.IsKeyIter it d (i+1) n ep→Heap.SameBut it s.heap h'→Q (some en.key) {s with heap:=h'}):wpAny (model prog w) A (pyNext (.ref it)) Q E s:=by
 obtain⟨o,ho,hc,hd⟩:=id hit;unfold pyNext;refine wpAny_bind (wpAny_attempt (wpAny_callSpecial?_slot (name:=Str.ofString "__next__") hit.typeIs F.slot_dict_keyiterator_next
  (wpAny_call_entry F.slot_dict_keyiterator_next hit.typeIs F.entry_dict_keyiterator_next ?_ (F.args_dict_keyiterator_next_1 _))))
 refine wpAny_bind (wpAny_pure ?_);refine wpAny_bind ?_;refine wpAny_bind ?_;first|refine wpAny_bind (wpAny_typeNameOfWhole_keyiter hit.typeIs (wpAny_pure ?_))|refine wpAny_bind (wpAny_typeNameOf_keyiter hit.typeIs (wpAny_pure ?_))
 refine wpAny_bind (wpAny_fieldsOf ho hd ?_);have hown:Builtin.Dict_items.ownsTuple "dict_keyiterator"=false:=by decide
 simp only[hown,Bool.false_eq_true,if_false];show wpAny _ _ (if (Value.ref d==Value.none)=true then _ else _) _ _ s;rw[if_neg (show¬((Value.ref d==Value.none)=true)from Bool.false_ne_true)];refine wpAny_bind (wpAny_pure ?_);refine wpAny_bind (wpAny_dictEntries hod hdd ?_);rw[if_neg (by rw[hsz];simp)];refine wpAny_bind (wpAny_pure ?_);refine wpAny_bind (wpAny_dictEpoch hod hdd ?_);rw[if_neg (by simp)];refine wpAny_pure ?_;obtain⟨hlt',hen⟩:=Array.getElem?_eq_some_iff.mp hx;simp only[show¬((i:Int)<0)from by omega,if_false,Int.toNat_natCast,Array.getElem?_eq_getElem hlt'];refine wpAny_bind ?_;first|refine wpAny_bind (wpAny_typeNameOfWhole_keyiter hit.typeIs (wpAny_pure ?_))|refine wpAny_bind (wpAny_typeNameOf_keyiter hit.typeIs (wpAny_pure ?_))
 refine wpAny_bind (wpAny_isOneOf_keyiter hit.typeIs ?_);show wpAny _ _ (setField (.ref it) 1 (rawInt ((i:Int)+1)) >>= _) _ _ s;refine wpAny_bind (wpAny_setField ho hd (by simp) ?_);have hit':(s.heap.update it (Obj.mapFields (·.setIfInBounds 1 (rawInt ((i:Int)+1))))).IsKeyIter it d (i+1) n ep:=
  ⟨_,Heap.get?_update_self _ ho (Obj.isFreed_of_fields (Obj.data_mapFields hd _)),(Obj.cls_mapFields ..).trans hc,by rw[Obj.data_mapFields hd];simp[rawInt]⟩
 refine wpAny_bind (wpAny_holding ?_);refine wpAny_bind (wpAny_isOneOf_keyiter (s:={s with heap:=s.heap.update it (Obj.mapFields (·.setIfInBounds 1 (rawInt ((i:Int)+1))))}) hit'.typeIs ?_);show wpAny _ _ (pure es[i].key) _ _ _;rw[hen];exact wpAny_pure (wpAny_pure ⟨_,rfl,wpAny_pure (hQ _ hit' (Heap.SameBut.update ..))⟩)
theorem zQ {it d:Addr}{i n ep:Nat}{od:Obj}{es:Array DictEntry}{Q:Option Value→Shared→Prop}(hh:A.handled=none) (hit:s.heap.IsKeyIter it d i n ep) (hod:s.heap.get? d=some od) (hdd:od.data= .dict es ep)
  (hsz:es.size=n) (hge:n≤i) (hQ:∀h',Heap.ExtBut it s.heap h'→Q none {s with heap:=h'}):wpAny (model prog w) A (pyNext (.ref it)) Q E s:=by
 obtain⟨o,ho,hc,hd⟩:=id hit;unfold pyNext;refine wpAny_bind (wpAny_attempt (wpAny_callSpecial?_slot (name:=Str.ofString "__next__") hit.typeIs F.slot_dict_keyiterator_next
  (wpAny_call_entry F.slot_dict_keyiterator_next hit.typeIs F.entry_dict_keyiterator_next ?_ (F.args_dict_keyiterator_next_1 _))))
 refine wpAny_bind (wpAny_pure ?_);refine wpAny_bind ?_;refine wpAny_bind ?_;first|refine wpAny_bind (wpAny_typeNameOfWhole_keyiter hit.typeIs (wpAny_pure ?_))|refine wpAny_bind (wpAny_typeNameOf_keyiter hit.typeIs (wpAny_pure ?_))
 refine wpAny_bind (wpAny_fieldsOf ho hd ?_);have hown:Builtin.Dict_items.ownsTuple "dict_keyiterator"=false:=by decide
 simp only[hown,Bool.false_eq_true,if_false];show wpAny _ _ (if (Value.ref d==Value.none)=true then _ else _) _ _ s;rw[if_neg (show¬((Value.ref d==Value.none)=true)from Bool.false_ne_true)];refine wpAny_bind (wpAny_pure ?_);refine wpAny_bind (wpAny_dictEntries hod hdd ?_);rw[if_neg (by rw[hsz];simp)];refine wpAny_bind (wpAny_pure ?_);refine wpAny_bind (wpAny_dictEpoch hod hdd ?_);rw[if_neg (by simp)];refine wpAny_pure ?_;have hge':es.size≤i:=by rw[hsz];exact hge
 simp only[show¬((i:Int)<0)from by omega,if_false,Int.toNat_natCast,Array.getElem?_eq_none hge'];refine wpAny_bind ?_;first|refine wpAny_bind (wpAny_typeNameOfWhole_keyiter hit.typeIs (wpAny_pure ?_))|refine wpAny_bind (wpAny_typeNameOf_keyiter hit.typeIs (wpAny_pure ?_))
 show wpAny _ _ (setField (.ref it) 0 .none >>= _) _ _ s;refine wpAny_bind (wpAny_setField ho hd (by simp) ?_);show wpAny _ _ (newExc (.type "StopIteration") [] >>= _) _ _ _;refine wpAny_bind ?_;simp only[newExc,newTuple];refine wpAny_bind (wpAny_newObj_type ?_ (by size_fits));refine wpAny_bind (m:=firstArgMember _ _) (wpAny_of_eq (a:=Value.none) (by first|rfl|(simp only[firstArgMember];rfl)) ?_);refine wpAny_newObj_type ?_ (by size_fits);simp only[raiseNew];refine wpAny_bind (wpAny_handled ?_);rw[show A.in1.handled=none from hh];refine wpAny_bind (wpAny_pure (wpAny_throw ?_));refine wpAny_bind (wpAny_isInstance (T:="StopIteration") (b:=true) ⟨_,Heap.get?_push_size _ rfl,rfl⟩ isSubtype_stop ?_);exact wpAny_pure (hQ _ (((Heap.SameBut.update ..).extBut.push _).push _))
end
theorem ZD {κ:Type}{kvs:List (κ×V)}{vs:List (κ×Value)}(h:KV kvs vs):∀{i:Nat}{k:κ}{v:V},kvs[i]?=some (k,v)→∃u,vs[i]?=some (k,u)∧RelV v u:=by
 unfold KV at h
 induction h with
 |nil=>intro i k v e;simp at e
 | @cons a b l₁ l₂ r t ih=>
  intro i k v e;cases i with
  |zero=>
   simp only[List.getElem?_cons_zero,Option.some.injEq]at e;subst e;refine⟨b.2,?_,r.2⟩;simp only[List.getElem?_cons_zero];exact congrArg some (Prod.ext r.1.symm rfl)
  |succ j=>
   simp only[List.getElem?_cons_succ]at e⊢;exact ih e
theorem Ql {α β:Type}{G:α→β→Prop}{l₁:List α}{l₂:List β}(h:Paired G l₁ l₂):∀{i:Nat}{a:α},l₁[i]?=some a→∃b,l₂[i]?=some b∧G a b:=by
 induction h with
 |nil=>intro i a e;simp at e
 | @cons a b l₁ l₂ r t ih=>
  intro i a' e;cases i with
  |zero=>
   simp only[List.getElem?_cons_zero,Option.some.injEq]at e;subst e;exact⟨b,rfl,r⟩
  |succ j=>
   simp only[List.getElem?_cons_succ]at e⊢;exact ih e
theorem Yv {k:Key}{u:Value}(h:zO k u=true):RelV (kV k) u:=by
 rcases fH h with⟨i,t,rfl,rfl⟩|⟨x,t,rfl,rfl⟩
 ·exact⟨t,rfl⟩
 ·exact⟨t,rfl⟩
section
variable {X:Cx}{pins:List (Addr×Obj)}{σ:St}{H:Hp}{s:Shared}{d:Addr}{o:Obj}
theorem Inv.Tq {kvs:List (Key×V)}(I:Inv X pins σ H s) (h:H d=some (.cM o (.dK kvs))):
  (d==sysModules)=false∧s.heap.get? d=some o∧o.ExactDict∧∃(es:Array DictEntry) (ep:Nat) (vs:List (Key×Value)),o.data= .dict es ep∧es.size=kvs.length∧KV kvs vs∧s.heap.DictAt (dJ X.prog X.w) d vs ep:=by
 obtain⟨hd,z,hs,vs,kv,o',es,ep,ho,hx,hdt,r⟩:=I.hok d _ h;rw[hd]at ho;cases ho;refine⟨hs,hd,hx,es,ep,vs,hdt,?_,kv,o,es,hd,hx,hdt,r⟩;have l1:=r.2.1.length;have l2:kvs.length=vs.length:=Paired.length kv;rw[Array.length_toList]at l1;omega
theorem Inv.ag2 {kvs:List (List Key×V)}(I:Inv X pins σ H s) (h:H d=some (.cM o (.dT kvs))):
  (d==sysModules)=false∧s.heap.get? d=some o∧o.ExactDict∧∃(es:Array DictEntry) (ep:Nat),o.data= .dict es ep∧es.size=kvs.length∧
   ∀(i:Nat) (k:List Key) (v:V),kvs[i]?=some (k,v)→∃(en:DictEntry) (q:Addr),es[i]?=some en∧en.key= .ref q∧H q=some (.tup (k.map kV)):=by
 obtain⟨hd,z,hs,xs,pr,o',es,ep,ho,hx,hdt,he,_⟩:=I.hok d _ h;rw[hd]at ho;cases ho;refine⟨hs,hd,hx,es,ep,hdt,?_,fun i k v e=>?_⟩
 ·have l1:es.size=xs.length:=size_of_entries he
  have l2:kvs.length=xs.length:=Paired.length pr;omega
 ·obtain⟨b,hb,e1,e2,_⟩:=Ql pr e
  have q:=entry_at he i;rw[hb]at q;exact⟨_,b.2.1,q,rfl,e2⟩
end
def Itk (d:Addr) (o:Obj) (kvs:List (Key×V)):It:=
 ⟨fun i H=>H d=some (.cM o (.dK kvs))∧i<kvs.length,fun i H x H'=>H'=H∧∃k v,kvs[i]?=some (k,v)∧x=kV k,fun i H=>H d=some (.cM o (.dK kvs))∧kvs.length≤i⟩
def ajt (d:Addr) (o:Obj) (kvs:List (List Key×V)):It:=
 ⟨fun i H=>H d=some (.cM o (.dT kvs))∧i<kvs.length,fun i H x H'=>H'=H∧∃(k:List Key) (v:V) (q:Addr),kvs[i]?=some (k,v)∧x= .ref q∧H q=some (.tup (k.map kV)),fun i H=>H d=some (.cM o (.dT kvs))∧kvs.length≤i⟩
def Iti (d:Addr) (o:Obj) (kvs:List (Key×V)):It:=
 ⟨fun i H=>H d=some (.cM o (.dK kvs))∧i<kvs.length,fun i H x H'=>∃T k v,kvs[i]?=some (k,v)∧x= .ref T∧H T=none∧H'=upd H T (.tup [kV k,v]),fun i H=>H d=some (.cM o (.dK kvs))∧kvs.length≤i⟩
theorem Ba {o:Obj}{es es':Array DictEntry}{ep ep':Nat}(h:o.data= .dict es ep) (h':o.data= .dict es' ep'):es'=es∧ep'=ep:=by
 rw[h]at h';cases h';exact⟨rfl,rfl⟩
section
variable {P:Program}{w:World}{K:PySem.W.Frag}{tg:Expr}{d:Addr}{o:Obj}{es:Array DictEntry}{ep:Nat}
theorem Tr {kvs:List (Key×V)}(it:Addr) (hod:o.data= .dict es ep):Turn P w K tg (Itk d o kvs) [it] it (fun i h=>h.IsKeyIter it d i kvs.length ep) where
 mem:=by simp
 obj:=fun i h st b hb=>by
  have e:b=it:=by simpa using hb
  subst e;obtain⟨oi,e,c,dd⟩:=st;exact⟨oi,e,fun v z=>by rw[dd]at z;cases z⟩
 keep:=fun i h h' st k=>st.at fun oi e=>k it (by simp) oi e
 item:=by
  intro X hP hw hK hc i pins s σ H E I hf st hg;subst hP hw hK;obtain⟨hd,hi⟩:=hg;obtain⟨f0,f1,f2,f3,f4,f5⟩:=hf it (by simp);obtain⟨hs,hgd,hx,es',ep',vs,hdt,hsz,kv,hm⟩:=I.Tq hd;obtain⟨rfl,rfl⟩:=Ba hod hdt;obtain⟨⟨k,v⟩,hkv⟩:∃p,kvs[i]?=some p:=⟨kvs[i],List.getElem?_eq_getElem hi⟩
  obtain⟨u,hu,ru⟩:=ZD kv hkv;have hl:kvs.length=vs.length:=Paired.length kv;rw[hl]at st;refine wpAny_pyNext_dict_item st hm hu fun key h' hkey st' sb=>?_
  have I1:Inv X pins σ H {s with heap:=h'}:=I.turned (t':=s.toks) (fun b ob hb e=>(sb.2 b hb).trans e) f0 f1 f3 f4 f5;obtain⟨oi,e,c,dd⟩:=id st';refine⟨key,rfl,Zj (s:={s with heap:=h'}) e c dd (by decide) ⟨kV k,H,I1,Yv (show zO k key=true from hkey),⟨rfl,k,v,hkv,rfl⟩,?_,fun b hb=>(hf b hb).1⟩⟩;show h'.IsKeyIter it d (i+1) kvs.length _;rw[hl];exact st'
 done:=by
  intro X hP hw hK hc i pins s σ H E I hf st hg;subst hP hw hK;obtain⟨hd,hi⟩:=hg;obtain⟨f0,f1,f2,f3,f4,f5⟩:=hf it (by simp);obtain⟨hs,hgd,hx,es',ep',vs,hdt,hsz,kv,hm⟩:=I.Tq hd;obtain⟨rfl,rfl⟩:=Ba hod hdt;exact zQ (I.ok.hd hc) st hgd hdt hsz hi fun h' eb=>⟨rfl,I.turned (t':=s.toks) (fun b ob hb e=>eb b ob hb e) f0 f1 f3 f4 f5⟩
 self:=fun A i s Q E st h=>wpAny_pyIter_keyiter st h
theorem abM {kvs:List (List Key×V)}(it:Addr) (hod:o.data= .dict es ep):Turn P w K tg (ajt d o kvs) [it] it (fun i h=>h.IsKeyIter it d i kvs.length ep) where
 mem:=by simp
 obj:=fun i h st b hb=>by
  have e:b=it:=by simpa using hb
  subst e;obtain⟨oi,e,c,dd⟩:=st;exact⟨oi,e,fun v z=>by rw[dd]at z;cases z⟩
 keep:=fun i h h' st k=>st.at fun oi e=>k it (by simp) oi e
 item:=by
  intro X hP hw hK hc i pins s σ H E I hf st hg;subst hP hw hK;obtain⟨hd,hi⟩:=hg;obtain⟨f0,f1,f2,f3,f4,f5⟩:=hf it (by simp);obtain⟨hs,hgd,hx,es',ep',hdt,hsz,ent⟩:=I.ag2 hd;obtain⟨rfl,rfl⟩:=Ba hod hdt;obtain⟨⟨k,v⟩,hkv⟩:∃p,kvs[i]?=some p:=⟨kvs[i],List.getElem?_eq_getElem hi⟩
  obtain⟨en,q,hen,hkey,hq⟩:=ent i k v hkv;refine FP st hgd hdt hsz hen fun h' st' sb=>?_
  have I1:Inv X pins σ H {s with heap:=h'}:=I.turned (t':=s.toks) (fun b ob hb e=>(sb.2 b hb).trans e) f0 f1 f3 f4 f5;obtain⟨oi,e,c,dd⟩:=id st';exact⟨en.key,rfl,Zj (s:={s with heap:=h'}) e c dd (by decide) ⟨.ref q,H,I1,hkey,⟨rfl,k,v,q,hkv,rfl,hq⟩,st',fun b hb=>(hf b hb).1⟩⟩
 done:=by
  intro X hP hw hK hc i pins s σ H E I hf st hg;subst hP hw hK;obtain⟨hd,hi⟩:=hg;obtain⟨f0,f1,f2,f3,f4,f5⟩:=hf it (by simp);obtain⟨hs,hgd,hx,es',ep',hdt,hsz,ent⟩:=I.ag2 hd;obtain⟨rfl,rfl⟩:=Ba hod hdt;exact zQ (I.ok.hd hc) st hgd hdt hsz hi fun h' eb=>⟨rfl,I.turned (t':=s.toks) (fun b ob hb e=>eb b ob hb e) f0 f1 f3 f4 f5⟩
 self:=fun A i s Q E st h=>by
  refine wpAny_pyIter_slot st.typeIs F.slot_dict_keyiterator_iter (wpAny_call_entry F.slot_dict_keyiterator_iter st.typeIs F.entry_dict_keyiterator_iter ?_ (F.args_dict_keyiterator_iter_1 _));show wpAny _ _ (ret (.ref it)) _ _ s;exact wpAny_pure ⟨_,rfl,"dict_keyiterator",_,st.typeIs,F.slot_dict_keyiterator_next.lookup,h⟩
theorem abN {kvs:List (Key×V)}{elts:List Expr}{kk:Nat}{tpos:Pos}(it:Addr) (hod:o.data= .dict es ep):
  Turn P w K (.Tuple elts kk tpos) (Iti d o kvs) [it] it (fun i h=>∃ok ov,IsItemIter h it d i kvs.length ep ok ov) where
 mem:=by simp
 obj:=fun i h st b hb=>by
  have e:b=it:=by simpa using hb
  subst e;obtain⟨ok,ov,e⟩:=st;exact⟨_,e,fun v z=>nomatch z⟩
 keep:=fun i h h' st k=>let⟨ok,ov,e⟩:=st;⟨ok,ov,k it (by simp) _ e⟩
 item:=by
  intro X hP hw hK hc i pins s σ H E I hf st hg;subst hP hw hK;obtain⟨hd,hi⟩:=hg;obtain⟨hs,hgd,hx,es',ep',vs,hdt,hsz,kv,hm⟩:=I.Tq hd;obtain⟨rfl,rfl⟩:=Ba hod hdt;obtain⟨⟨k,v⟩,hkv⟩:∃p,kvs[i]?=some p:=⟨kvs[i],List.getElem?_eq_getElem hi⟩
  obtain⟨u,hu,ru⟩:=ZD kv hkv;have hl:kvs.length=vs.length:=Paired.length kv;obtain⟨ok,ov,he⟩:=st;rw[hl]at he;have hlt:it<s.heap.objs.size:=Heap.lt_size he;refine wpAny_pyNext_items_item he hm hu fun key h' hkey ho hT hz hk=>?_
  refine⟨_,rfl,wpAny_letOwnedTupleGo_items (s:={s with heap:=h'}) ho fun h'' he' sb=>?_⟩;have hT2:h''.get? s.heap.objs.size=some {cls:= .type "tuple",data:= .seq #[key,u]}:=(sb.2 _ (Nat.ne_of_gt hlt)).trans hT;have new:fD X.prog X.w (upd H s.heap.objs.size (.tup [kV k,v])) h'' s.heap.objs.size (.tup [kV k,v]):=
   ⟨by show 2≤sizeLine;decide,[key,u], .cons (Yv (show zO k key=true from hkey)) (.cons ru .nil),⟨_,hT2,rfl,_,rfl⟩⟩
  have I1:Inv X pins σ (upd H s.heap.objs.size (.tup [kV k,v])) {s with heap:=h''}:=
   I.JB (t':=s.toks) (ch:=[it]) (fun b ob hb e=>(sb.2 b (by simpa using hb)).trans (hk b ob (by simpa using hb) e)) hf (Nat.le_refl _) new
  refine⟨.ref s.heap.objs.size,_,I1,rfl,⟨_,k,v,hkv,rfl,I.hok.fresh (Nat.le_refl _),rfl⟩,⟨key,u,?_⟩,fun b hb=>?_⟩
  ·rw[hl];exact he'
  ·have e:b=it:=by simpa using hb
   rw[e,aJ (Nat.ne_of_lt hlt)];exact(hf it (by simp)).1
 done:=by
  intro X hP hw hK hc i pins s σ H E I hf st hg;subst hP hw hK;obtain⟨hd,hi⟩:=hg;obtain⟨f0,f1,f2,f3,f4,f5⟩:=hf it (by simp);obtain⟨hs,hgd,hx,es',ep',vs,hdt,hsz,kv,hm⟩:=I.Tq hd;obtain⟨rfl,rfl⟩:=Ba hod hdt;have hl:kvs.length=vs.length:=Paired.length kv;obtain⟨ok,ov,he⟩:=st;rw[hl]at he;exact wpAny_pyNext_items_end (I.ok.hd hc) he hm (List.getElem?_eq_none (by omega)) fun h' eb=>⟨rfl,I.turned (t':=s.toks) (fun b ob hb e=>eb b ob hb e) f0 f1 f3 f4 f5⟩
 self:=fun A i s Q E st h=>let⟨_,_,e⟩:=st;PySem.W.kcp_self e h
end
def ag3 (td:TE):TI:=fun σ H R=>td σ H fun x H1=>∃d o,x= .ref d∧((∃kvs,H1 d=some (.cM o (.dK kvs))∧R (Itk d o kvs) H1)∨∃kvs,H1 d=some (.cM o (.dT kvs))∧R (ajt d o kvs) H1)
def ae0 (td:TE):TI:=fun σ H R=>td σ H fun x H1=>∃d o kvs,x= .ref d∧H1 d=some (.cM o (.dK kvs))∧R (Iti d o kvs) H1
section
variable {X:Cx}{tg e:Expr}{td:TE}{apos cpos:Pos}
theorem ag4 (he:PE X e td):PI X tg e (ag3 td):=by
 intro pins s σ H R I h;refine cN (he pins s σ H _ I h) fun u s1 ⟨x,H1,I1,rx,d,o,ex,q⟩=>?_
 subst ex;obtain rfl:u=Value.ref d:=rx;rcases q with⟨kvs,hd,q⟩|⟨kvs,hd,q⟩
 ·obtain⟨hs,hgd,hx,es,ep,vs,hdt,hsz,kv,hm⟩:=I1.Tq hd
  refine Cr hs hgd hx hdt (R6 (tk:=s1.toks) I1 _ (Tr _ hdt) ⟨_,Heap.get?_push_size _ rfl,rfl,?_⟩ q);rw[hsz]<;>rfl
 ·obtain⟨hs,hgd,hx,es,ep,hdt,hsz,ent⟩:=I1.ag2 hd
  refine Cr hs hgd hx hdt (R6 (tk:=s1.toks) I1 _ (abM _ hdt) ⟨_,Heap.get?_push_size _ rfl,rfl,?_⟩ q);rw[hsz]<;>rfl
theorem afB {elts:List Expr}{kk:Nat}{tpos:Pos}(he:PE X e td) (hbase:attributeBase e "items" X.env (eval e X.env)=eval e X.env:=by rfl) (hline:(apos.endLine==cpos.line)=true:=by rfl):
  PI X (.Tuple elts kk tpos) (.Call (.Attribute e "items" apos) [] [] cpos) (ae0 td):=by
 intro pins s σ H R I h;refine wpAny_Call_method (T:="dict") (id:="dict.items") hbase rfl hline F.plainAttrs_dict F.slot_dict_items F.type_dict_items (cN (he pins s σ H _ I h) fun u s1 ⟨x,H1,I1,rx,d,o,kvs,ex,hd,q⟩=>?_);subst ex;obtain rfl:u=Value.ref d:=rx;obtain⟨hs,hgd,hx,es,ep,vs,hdt,hsz,kv,hm⟩:=I1.Tq hd;have hl:kvs.length=vs.length:=Paired.length kv;refine⟨hm.dictOf.typeIs,hm.dictOf.mapOf.noDict,?_⟩;have I2:Inv X pins σ H1 {s1 with heap:=s1.heap.push {cls:= .type "dict_items",data:= .fields #[.ref d]}}:=I1.kept (t':=s1.toks) fun b ob q=>Heap.get?_push_of_some _ q
 have fin:wpAny (model X.prog X.w) X.A (pyIter (.ref s1.heap.objs.size)) (PIE X pins σ (.Tuple elts kk tpos) R) X.xe {s1 with heap:=s1.heap.push {cls:= .type "dict_items",data:= .fields #[.ref d]}}:=by
  refine wpAny_pyIter_items (d:=d) (knd:=dJ X.prog X.w) ⟨_,Heap.get?_push_size _ rfl,rfl,rfl⟩ (hm.push _) (R6 (tk:=s1.toks) I2 _ (abN _ hdt) ⟨.none, .none,?_⟩ q);rw[hl];exact Heap.get?_push_size _ rfl
 show wpAny _ _ (callWith cpos (.builtin "dict.items") [.ref d] [] []) _ X.xe s1;exact method_meetsIn F.slot_dict_items F.entry_dict_items rfl (PySem.evalArgs_none ⟨rfl,hm.dictOf.typeIs,F.args_dict_items_1 _,_,meets_dict_items (dJ X.prog X.w) d hs,⟨vs,hm.dictOf⟩,fin⟩)
end
def Ite (K:PySem.W.Frag) (a:Addr):It:=
 ⟨fun i H=>∃(xs:List V) (x:V),dR K H a xs∧xs[i]?=some x,fun i H v H'=>∃T x,v= .ref T∧H T=none∧H'=upd H T (.tup [.int (i:Nat),x])∧∀xs,dR K H a xs→xs[i]?=some x,fun i H=>∃xs:List V,dR K H a xs∧xs.length≤i⟩
theorem adN {P:Program}{w:World}{K:PySem.W.Frag}{elts:List Expr}{kk:Nat}{tpos:Pos}(a e it:Addr):
  Turn P w K (.Tuple elts kk tpos) (Ite K a) [e,it] e (fun i h=>(∃old,IsEnum h e it ((i:Nat):Int) old)∧h.IsListIter it a i∧e≠it) where
 mem:=by simp
 obj:=fun i h st b hb=>by
  obtain⟨⟨old,he⟩,⟨o,ho,hc,hd⟩,_⟩:=st;have e':b=e∨b=it:=by simpa using hb
  rcases e' with z|z
  ·rw[z];exact⟨_,he,fun v q=>nomatch q⟩
  ·rw[z];exact⟨o,ho,fun v q=>by rw[hd]at q;cases q⟩
 keep:=fun i h h' st k=>let⟨⟨old,he⟩,hi,hne⟩:=st;⟨⟨old,k e (by simp) _ he⟩,hi.at fun o q=>k it (by simp) o q,hne⟩
 item:=by
  intro X hP hw hK hc i pins s σ H E I hf st hg;subst hP hw hK;obtain⟨⟨old,he⟩,hit,hne⟩:=st;obtain⟨xs,x,hq,hx⟩:=hg;obtain⟨its,rv,p,hz⟩:=I.list hq;obtain⟨u,hu,ru⟩:=rv.get hx;have hel:e<s.heap.objs.size:=Heap.lt_size he;have hil:it<s.heap.objs.size:=by obtain⟨_,q,_⟩:=hit;exact Heap.lt_size q
  refine wpAny_pyNext_enum_item he hit p.isList (x:=u) (by simpa using hu) hne fun h' ho hit' hT hsz hk=>?_
  refine⟨_,rfl,wpAny_letOwnedTupleGo_enum (s:={s with heap:=h',toks:=s.toks+1}) ho fun h'' he' sb=>?_⟩;have hT2:h''.get? s.heap.objs.size=some {cls:= .type "tuple",data:= .seq #[.int i s.toks,u]}:=(sb.2 _ (Nat.ne_of_gt hel)).trans hT;have new:fD X.prog X.w (upd H s.heap.objs.size (.tup [.int (i:Nat),x])) h'' s.heap.objs.size (.tup [.int (i:Nat),x]):=
   ⟨by show 2≤sizeLine;decide,[.int i s.toks,u], .cons ⟨_,rfl⟩ (.cons ru .nil),⟨_,hT2,rfl,_,rfl⟩⟩
  have I1:Inv X pins σ (upd H s.heap.objs.size (.tup [.int (i:Nat),x])) {s with heap:=h'',toks:=s.toks+1}:=
   I.JB (ch:=[e,it]) (fun b ob hb q=>(sb.2 b (fun z=>hb (by simp[z]))).trans (hk b ob (fun z=>hb (by simp[z])) (fun z=>hb (by simp[z])) q)) hf (Nat.le_refl _) new
  refine⟨.ref s.heap.objs.size,_,I1,rfl,⟨_,x,rfl,I.hok.fresh (Nat.le_refl _),rfl,fun ys hy=>by rw[I.Hu hy hq];exact hx⟩,⟨⟨u,?_⟩,hit'.at fun o q=>(sb.2 it (Ne.symm hne)).trans q,hne⟩,fun b hb=>?_⟩
  ·have e1:((i+1:Nat):Int)=(i:Int)+1:=by omega
   rw[e1];exact he'
  ·have hb':b<s.heap.objs.size:=by
    have e':b=e∨b=it:=by simpa using hb
    rcases e' with z|z
    ·rw[z];exact hel
    ·rw[z];exact hil
   rw[aJ (Nat.ne_of_lt hb')];exact(hf b hb).1
 done:=by
  intro X hP hw hK hc i pins s σ H E I hf st hg;subst hP hw hK;obtain⟨⟨old,he⟩,hit,hne⟩:=st;obtain⟨xs,hq,hx⟩:=hg;obtain⟨its,rv,p,hz⟩:=I.list hq;obtain⟨f0,f1,f2,f3,f4,f5⟩:=hf it (by simp);have hl:=rv.length;exact wpAny_pyNext_enum_end (I.ok.hd hc) he hit p.isList (by simp;omega) fun h' eb=>⟨rfl,I.turned (t':=s.toks) (fun b o hb q=>eb b o hb q) f0 f1 f3 f4 f5⟩
 self:=fun A i s Q E st h=>let⟨⟨_,he⟩,_⟩:=st;wpAny_pyIter_enum he h
def ajM (K:PySem.W.Frag) (ta:TA):TI:=fun σ H R=>ta σ H fun vs H1=>∃a xs,vs=[.ref a]∧dR K H1 a xs∧R (Ite K a) H1
theorem ag5 {X:Cx}{e:Expr}{ta:TA}{p pos tpos:Pos}{elts:List Expr}{kk:Nat}(hg:Gl X "enumerate") (hm:X.mg "enumerate"=none) (ha:PA X [e] ta) (hs:starEach [e] X.env=[(false,eval e X.env)]:=by rfl):
  PI X (.Tuple elts kk tpos) (.Call (.Name "enumerate" p) [e] [] pos) (ajM X.K ta):=by
 intro pins s σ H R I h;refine Call_ (Hq I hg hm boot_enumerate (PyProof.Rows.callWith_type1 (cN (ha pos pins s σ H _ I h) fun us s1 ⟨vs,H1,I1,r1,q1⟩=>?_) hs rfl));obtain⟨a,xs,ex,hq,q⟩:=q1;subst ex;cases r1 with
 |cons r rr=>
  cases rr;cases r;obtain⟨its,rv,p',hz⟩:=I1.list hq;refine call_enumerate_list p'.isList fun h' he hit hsz hk=>wpAny_pyIter_enum he ?_
  have I2:Inv X pins σ H1 {s1 with heap:=h'}:=I1.kept (t':=s1.toks) hk;refine⟨s1.heap.objs.size+1,[s1.heap.objs.size+1,s1.heap.objs.size],_,_,H1,rfl,I2,adN a (s1.heap.objs.size+1) s1.heap.objs.size,⟨⟨.none,he⟩,hit,Nat.succ_ne_self _⟩,fun b hb=>?_,q⟩;have e':b=s1.heap.objs.size+1∨b=s1.heap.objs.size:=by simpa using hb
  have hle:s1.heap.objs.size≤b:=by
   rcases e' with z|z
   ·rw[z];exact Nat.le_add_right _ _
   ·rw[z];exact Nat.le_refl _
  exact I1.Ym hle (I1.hok.fresh hle)
theorem adO:bootBuiltins "zip"=some (.type "zip"):=by decide+kernel
def Itz (K:PySem.W.Frag) (a b:Addr):It:=
 ⟨fun i H=>∃(xs ys:List V) (x y:V),dR K H a xs∧dR K H b ys∧xs[i]?=some x∧ys[i]?=some y,
  fun i H v H'=>∃T x y,v= .ref T∧H T=none∧H'=upd H T (.tup [x,y])∧(∀xs,dR K H a xs→xs[i]?=some x)∧∀ys,dR K H b ys→ys[i]?=some y,
  fun i H=>∃xs ys:List V,dR K H a xs∧dR K H b ys∧(xs.length≤i∨ys.length≤i)⟩
theorem afC {P:Program}{w:World}{K:PySem.W.Frag}{elts:List Expr}{kk:Nat}{tpos:Pos}{a b z TI TO i1 i2:Addr}(D:ZipApart z TI TO i1 i2 a b):
  Turn P w K (.Tuple elts kk tpos) (Itz K a b) [z,TI,TO,i1,i2] z (fun i h=>IsZip h z TI TO .none∧IsPair h TI (.ref i1) (.ref i2)∧(∃x y,IsPair h TO x y)∧h.IsListIter i1 a i∧h.IsListIter i2 b i) where
 mem:=by simp
 obj:=fun i h st c hc=>by
  obtain⟨hz,hTI,⟨x,y,hTO⟩,⟨o1,e1,_,d1⟩,⟨o2,e2,_,d2⟩⟩:=st;have e':c=z∨c=TI∨c=TO∨c=i1∨c=i2:=by simpa using hc
  rcases e' with q|q|q|q|q
  ·rw[q];exact⟨_,hz,fun v q=>nomatch q⟩
  ·rw[q];exact⟨_,hTI,fun v q=>nomatch q⟩
  ·rw[q];exact⟨_,hTO,fun v q=>nomatch q⟩
  ·rw[q];exact⟨o1,e1,fun v q=>by rw[d1]at q;cases q⟩
  ·rw[q];exact⟨o2,e2,fun v q=>by rw[d2]at q;cases q⟩
 keep:=fun i h h' st k=>by
  obtain⟨hz,hTI,⟨x,y,hTO⟩,h1,h2⟩:=st;exact⟨k z (by simp) _ hz,k TI (by simp) _ hTI,⟨x,y,k TO (by simp) _ hTO⟩,h1.at fun o q=>k i1 (by simp) o q,h2.at fun o q=>k i2 (by simp) o q⟩
 item:=by
  intro X hP hw hK hc i pins s σ H E I hf st hg;subst hP hw hK;obtain⟨hz,hTI,⟨x0,y0,hTO⟩,h1,h2⟩:=st;obtain⟨xs,ys,x,y,hqx,hqy,hx,hy⟩:=hg;obtain⟨its,rv,p,_⟩:=I.list hqx;obtain⟨its2,rv2,p2,_⟩:=I.list hqy;obtain⟨u,hu,ru⟩:=rv.get hx;obtain⟨u2,hu2,ru2⟩:=rv2.get hy;have hzl:z<s.heap.objs.size:=Heap.lt_size hz;refine wpAny_pyNext_zip_item D hz hTI hTO h1 h2 p.isList p2.isList (x:=u) (y:=u2) (by simpa using hu) (by simpa using hu2) fun h' z' TO' h1' h2' hT hsz hk=>?_
  refine⟨_,rfl,wpAny_letOwnedTupleGo_zip (s:={s with heap:=h'}) z' fun h'' z'' sb=>?_⟩;have hT2:h''.get? s.heap.objs.size=some {cls:= .type "tuple",data:= .seq #[u,u2]}:=(sb.2 _ (Nat.ne_of_gt hzl)).trans hT;have new:fD X.prog X.w (upd H s.heap.objs.size (.tup [x,y])) h'' s.heap.objs.size (.tup [x,y]):=
   ⟨by show 2≤sizeLine;decide,[u,u2], .cons ru (.cons ru2 .nil),⟨_,hT2,rfl,_,rfl⟩⟩
  have I1:Inv X pins σ (upd H s.heap.objs.size (.tup [x,y])) {s with heap:=h''}:=
   I.JB (t':=s.toks) (ch:=[z,TI,TO,i1,i2]) (fun c o hb q=>(sb.2 c (fun q'=>hb (by simp[q']))).trans (hk c o (fun q'=>hb (by simp[q'])) (fun q'=>hb (by simp[q'])) (fun q'=>hb (by simp[q'])) (fun q'=>hb (by simp[q'])) q)) hf (Nat.le_refl _) new
  refine⟨.ref s.heap.objs.size,_,I1,rfl,⟨_,x,y,rfl,I.hok.fresh (Nat.le_refl _),rfl,fun l hl=>by rw[I.Hu hl hqx];exact hx,fun l hl=>by rw[I.Hu hl hqy];exact hy⟩,⟨z'',?_,⟨u,u2,?_⟩,?_,?_⟩,fun c hcm=>?_⟩
  ·exact(sb.2 _ D.TIz).trans (hk _ _ D.TIz D.TITO D.TIi1 D.TIi2 hTI)
  ·exact(sb.2 _ D.TOz).trans TO'
  ·exact h1'.at fun o q=>(sb.2 _ D.i1z).trans q
  ·exact h2'.at fun o q=>(sb.2 _ D.i2z).trans q
  ·have hlt:c<s.heap.objs.size:=by
    have e':c=z∨c=TI∨c=TO∨c=i1∨c=i2:=by simpa using hcm
    rcases e' with q|q|q|q|q
    ·rw[q];exact hzl
    ·rw[q];exact Heap.lt_size hTI
    ·rw[q];exact Heap.lt_size hTO
    ·rw[q];obtain⟨_,e1,_⟩:=h1;exact Heap.lt_size e1
    ·rw[q];obtain⟨_,e2,_⟩:=h2;exact Heap.lt_size e2
   rw[aJ (Nat.ne_of_lt hlt)];exact(hf c hcm).1
 done:=by
  intro X hP hw hK hc i pins s σ H E I hf st hg;subst hP hw hK;obtain⟨hz,hTI,⟨x0,y0,hTO⟩,h1,h2⟩:=st;obtain⟨xs,ys,hqx,hqy,hend⟩:=hg;obtain⟨its,rv,p,_⟩:=I.list hqx;obtain⟨its2,rv2,p2,_⟩:=I.list hqy;have l1:=rv.length;have l2:=rv2.length;have he:its.toArray[i]?=none∨its2.toArray[i]?=none:=by
   rcases hend with q|q
   ·exact .inl (by simp;omega)
   ·exact .inr (by simp;omega)
  exact wpAny_pyNext_zip_end (I.ok.hd hc) D hz hTI hTO h1 h2 p.isList p2.isList he fun h' hk=>⟨rfl,I.ag1 (t':=s.toks) (ch:=[z,TI,TO,i1,i2]) (fun c o hb q=>
   hk c o (fun q'=>hb (by simp[q'])) (fun q'=>hb (by simp[q'])) (fun q'=>hb (by simp[q'])) (fun q'=>hb (by simp[q'])) q) hf⟩
 self:=fun A i s Q E st h=>wpAny_pyIter_zip st.1 h
def aju (K:PySem.W.Frag) (ta:TA):TI:=fun σ H R=>ta σ H fun vs H1=>∃a b xs ys,vs=[.ref a, .ref b]∧dR K H1 a xs∧dR K H1 b ys∧R (Itz K a b) H1
theorem ae1 {X:Cx}{e e2:Expr}{ta:TA}{p pos tpos:Pos}{elts:List Expr}{kk:Nat}(hg:Gl X "zip") (hm:X.mg "zip"=none) (ha:PA X [e,e2] ta)
  (hs:starEach [e,e2] X.env=(false,eval e X.env)::starEach [e2] X.env:=by rfl) (hpl:(backTo pos (starEach [e2] X.env)).any (·.1)=false:=by rfl):
  PI X (.Tuple elts kk tpos) (.Call (.Name "zip" p) [e,e2] [] pos) (aju X.K ta):=by
 intro pins s σ H R I h;refine Call_ (Hq I hg hm adO (PyProof.Rows.callWith_type1 (cN (ha pos pins s σ H _ I h) fun us s1 ⟨vs,H1,I1,r1,q1⟩=>?_) hs hpl));obtain⟨a,b,xs,ys,ex,hqx,hqy,q⟩:=q1;subst ex;cases r1 with
 |cons r rr=>
  cases rr with
  |cons r' rr=>
   cases rr;cases r;cases r';obtain⟨its,rv,p1,_⟩:=I1.list hqx;obtain⟨its2,rv2,p2,_⟩:=I1.list hqy;have la:a<s1.heap.objs.size:=p1.lt;have lb:b<s1.heap.objs.size:=p2.lt;refine call_zip_2 p1.isList p2.isList fun h' hz hTI hTO h1 h2 hsz hk=>wpAny_pyIter_zip hz ?_
   have I2:Inv X pins σ H1 {s1 with heap:=h'}:=I1.kept (t':=s1.toks) hk;refine⟨s1.heap.objs.size+4,[s1.heap.objs.size+4,s1.heap.objs.size+2,s1.heap.objs.size+3,s1.heap.objs.size,s1.heap.objs.size+1],_,_,H1,rfl,I2,afC (PySem.W.ktu_apart s1.heap.objs.size a b la lb),⟨hz,hTI,⟨_,_,hTO⟩,h1,h2⟩,fun c hcm=>?_,q⟩;have e':c=s1.heap.objs.size+4∨c=s1.heap.objs.size+2∨c=s1.heap.objs.size+3∨c=s1.heap.objs.size∨c=s1.heap.objs.size+1:=by simpa using hcm
   have hle:s1.heap.objs.size≤c:=by
    rcases e' with z|z|z|z|z
    ·rw[z];exact Nat.le_add_right _ _
    ·rw[z];exact Nat.le_add_right _ _
    ·rw[z];exact Nat.le_add_right _ _
    ·rw[z];exact Nat.le_refl _
    ·rw[z];exact Nat.le_add_right _ _
   exact I1.Ym hle (I1.hok.fresh hle)
end L2
namespace L2
open PySem PySem.Spec PyProof.Rows
def inClass (s:Stmt) (j:Nat):Stmt:=match s with
 | .ClassDef _ _ _ body _ _ _ _ _ _ _=>body.getD j (.Pass ⟨0,0,0,0⟩)
 |_=> .Pass ⟨0,0,0,0⟩
def vp (s:Stmt):Arguments:=match s with
 | .FunctionDef _ a _ _ _ _ _ _ _ _=>a
 |_=>{posonlyargs:=[],args:=[],vararg:=none,kwonlyargs:=[],kw_defaults:=[],kwarg:=none,defaults:=[]}
def rZ (s:Stmt):List Stmt:=match s with
 | .FunctionDef _ _ b _ _ _ _ _ _ _=>b
 |_=>[]
def aF (s:Stmt):Scope:=match s with
 | .FunctionDef _ _ _ _ _ _ sc _ _ _=>sc
 |_=>{kind:= .function,names:=[],isGenerator:=false,isCoroutine:=false}
abbrev cV:QK:=fun _ _ _ _ _ _=>False
abbrev E0:XK:=fun _ _ _=>False
theorem aP {X:Cx}:Passes cV X E0:=fun _ _ _ _ _ _ _ h=>h.elim
structure K9 (K:PySem.W.Frag) (x qual:Str) (st:Stmt) (f:Addr) (fd:FuncData):Prop where
 ex:∃(oc:Value) (od:Option Addr) (kV doc pm:Value) (an:Option Addr) (cdv ct:Value) (osl:Array (Option Value)),
  fd=PySem.W.fnOf x qual (vp st) (rZ st) (aF st) .none kV doc pm an cdv ct∧K.lookup f=some ⟨oc,od, .func fd,osl⟩∧PySem.W.codeIn K cdv qual=true
 kp:PySem.W.keepIn K (.ref f)=true
section
variable {P:Program}{w:World}{K:PySem.W.Frag}{mg:Str→Option Value}{base:Heap}
theorem K9.ok {x qual:Str}{st:Stmt}{f:Addr}{fd:FuncData}{N ps:List Str}{k:Nat}{sp:Sp}(F:K9 K x qual st f fd) (S:aR N ps (aF st)) (len:∀vs H Q E,sp vs H Q E→vs.length=ps.length)
  (hbody:∀(cdv:Value) (A:Around) (outer:List Env) (s:Shared) (H:Hp) (vs:List V) (Q:VK) (E:XK),iY k (A.deeper (envOfC qual (aF st) s.heap.objs.size f cdv))→sp vs H Q E→
   ∃t,Ny (Yq cV P w K mg base N qual (aF st) f cdv A outer s H E).nox (rZ st) t∧t {nx:=fun _ H'=>Q .non H',rt:=Q} (start N vs) H):bK P w K mg base cV (k+1) f fd ps sp:=by
 obtain⟨oc,od,kV,doc,pm,an,cdv,ct,osl,rfl,lk,hcd⟩:=F.ex;refine ajG lk hcd S len fun A outer s H vs Q E hr hsp=>?_
 obtain⟨t,h,q⟩:=hbody cdv A outer s H vs Q E hr hsp;exact⟨t,h.nox,q⟩
theorem K9.binds {x qual:Str}{st:Stmt}{f:Addr}{fd:FuncData}{ps:List Str}(F:K9 K x qual st f fd)
  (h:∀(kV doc pm:Value) (an:Option Addr) (cdv ct:Value) (us:List Value),us.length=ps.length→bindArgs (PySem.W.fnOf x qual (vp st) (rZ st) (aF st) .none kV doc pm an cdv ct) ⟨us,[]⟩=pure (ps.zip us)):Binds K fd ps []:=by
 obtain⟨oc,od,kV,doc,pm,an,cdv,ct,osl,rfl,lk,hcd⟩:=F.ex;exact .all (h kV doc pm an cdv ct)
theorem ae2 {x qual:Str}{st:Stmt}{f:Addr}{oc:Value}{od an:Option Addr}{osl:Array (Option Value)}{kV doc pm cdv ct:Value}(l:K.lookup f=some ⟨oc,od, .func (PySem.W.fnOf x qual (vp st) (rZ st) (aF st) .none kV doc pm an cdv ct),osl⟩)
  (c:PySem.W.codeIn K cdv qual=true) (k:PySem.W.keepIn K (.ref f)=true):K9 K x qual st f (PySem.W.fnOf x qual (vp st) (rZ st) (aF st) .none kV doc pm an cdv ct):=⟨⟨oc,od,kV,doc,pm,an,cdv,ct,osl,rfl,l,c⟩,k⟩
end
theorem FQ {A:Around}{k:Nat}(hr:iY k A):A.units+1<cLine:=Nat.lt_of_le_of_lt (Nat.add_le_add_left (by decide:1≤64) _) hr.units
section
variable {X:Cx}
theorem pv (i:Nat){x:Str}{pos:Pos}(hN:X.N[i]?=some x:=by rfl) (hv:Vis X.env.scope x:=by first|exact Or.inl rfl|exact Or.inr (Or.inl rfl)|exact Or.inr (Or.inr rfl)) (hd:(x==("__debug__":Str))=false:=by decide)
  (hcd:(x==("__classdict__":Str))=false:=by decide):PE X (.Name x pos) (Er i):=aib hN hv hd hcd
theorem adP:rW X (.builtin "len") (fun xs H Q=>∃a kvs,xs=[V.ref a]∧H a=some (.dK kvs)∧Q (.int kvs.length) H):=by
 intro pins s σ H xs us Q I r h;obtain⟨a,kvs,rfl,ha,q⟩:=h;obtain⟨u,rfl,ru⟩:=vals1 r;cases ru;exact ajJ I (.inl ha) fun t s' I'=>⟨.int kvs.length,H,I',⟨t,rfl⟩,q⟩
end
def Same (H H':Hp):Prop:=∀b o,H b=some o→H' b=some o
theorem Same.trans {H H1 H2:Hp}(a:Same H H1) (b:Same H1 H2):Same H H2:=fun c o h=>b c o (a c o h)
theorem Same.free {H H':Hp}(e:Same H H'){l:Addr}(h:H' l=Option.none):H l=Option.none:=by
 cases q:H l with
 |none=>rfl
 |some o=>
  rw[e l o q]at h;cases h
theorem Same.seq {K:PySem.W.Frag}{H H':Hp}{a:Addr}{xs:List V}(e:Same H H') (h:dR K H a xs):dR K H' a xs:=by
 rcases h with(h|⟨o,h⟩)|h
 ·exact .inl (.inl (e _ _ h))
 ·exact .inl (.inr ⟨o,e _ _ h⟩)
 ·exact .inr h
end L2
section
namespace L2
open PySem PySem.Spec PyProof.Rows
open PySem.W (WData Codec OpenSpec Well WellAll ReadsW ReadsAllW)
mutual
/-- x stands for the datum d,lists and tuples all the way -/
inductive Dw (K:PySem.W.Frag) (H:Hp):V→WData→Prop
 |non:Dw K H .non .none
 |bl (b:Bool):Dw K H (.bl b) (.bool b)
 |int (i:Int):Dw K H (.int i) (.int i)
 |str (x:Str):Dw K H (.str x) (.str x)
 |Fe (b:Array UInt8):Dw K H (.Fe b) (.bytes b.toList)
 |lst {a:Addr}{xs:List V}{ds:List WData}:dR K H a xs→vO K H xs ds→Dw K H (.ref a) (.list ds)
 |tup {a:Addr}{xs:List V}{ds:List WData}:Sv K H a xs→vO K H xs ds→Dw K H (.ref a) (.tuple ds)
inductive vO (K:PySem.W.Frag) (H:Hp):List V→List WData→Prop
 |nil:vO K H [] []
 |cons {v:V}{vs:List V}{d:WData}{ds:List WData}:Dw K H v d→vO K H vs ds→vO K H (v::vs) (d::ds)
end
theorem abO {K:PySem.W.Frag}{H:Hp}:∀ns:List Int,vO K H (ns.map V.int) (ns.map WData.int)
 |[]=> .nil
 |n::r=> .cons (.int n) (abO r)
theorem abP {K:PySem.W.Frag}{H:Hp}:∀(ns:List Int) (xs:List V),vO K H xs (ns.map WData.int)→xs=ns.map V.int
 |[],xs,h=>by
  cases h;rfl
 |n::r,xs,h=>by
  cases h with
  |cons h1 h2=>
   cases h1;rw[abP r _ h2]<;>rfl
section
variable {P:Program}{w:World}{K:PySem.W.Frag}{H:Hp}{h:Heap}{R:PySem.W.WRecords}{cl:Str→Option Addr}
theorem aiz {a:Addr}{xs:List V}(hok:nY P w H h) (KX:K.In h) (q:dR K H a xs):∃(its:List Value) (o:Obj) (n:Nat),Vals xs its∧h.get? a=some o∧o.cls= .type "list"∧o.data= .seq its.toArray n:=by
 rcases q with q|⟨o,its,n,e,hc,_,hd,_,hv⟩
 ·obtain⟨_,its,n,hv,e⟩:=(show fD P w H h a (.lst xs)from q.ok hok)
  exact⟨its,_,n,hv,e,rfl,rfl⟩
 ·exact⟨its.toList,o,n,hv,KX _ _ e,hc,by simp[hd]⟩
theorem aiA {a:Addr}{xs:List V}(hok:nY P w H h) (KX:K.In h) (q:Sv K H a xs):∃(its:List Value) (o:Obj) (n:Nat),Vals xs its∧h.get? a=some o∧o.cls= .type "tuple"∧o.data= .seq its.toArray n:=by
 rcases q with q|⟨o,its,n,e,hc,hd,_,hv⟩
 ·obtain⟨_,its,hv,o,e,hc,n,hd⟩:=(show fD P w H h a (.tup xs)from q.ok hok)
  exact⟨its,o,n,hv,e,hc,hd⟩
 ·exact⟨its.toList,o,n,hv,KX _ _ e,hc,by simp[hd]⟩
mutual
theorem Dw.reads (hok:nY P w H h) (KX:K.In h):∀(d:WData) (v:V) (u:Value),Dw K H v d→RelV v u→∃as,ReadsW R cl h u d as
 | .none,_,_,x,r=>by
  cases x;cases r;exact⟨_,ReadsW.none⟩
 | .bool b,_,_,x,r=>by
  cases x;cases r;exact⟨_,ReadsW.bool b⟩
 | .int i,_,_,x,r=>by
  cases x;obtain⟨t,rfl⟩:=r;exact⟨_,ReadsW.int i t⟩
 | .str s,_,_,x,r=>by
  cases x;obtain⟨t,rfl⟩:=r;exact⟨_,ReadsW.str s t⟩
 | .bytes b,_,_,x,r=>by
  cases x;obtain⟨t,rfl⟩:=r;exact⟨_,ReadsW.bytes _ t⟩
 | .list ds,_,_,x,r=>by
  cases x with
  |lst hs ha=>
   cases r;obtain⟨its,o,n,rv,ho,hc,hd⟩:=aiz hok KX hs;obtain⟨as,hr⟩:=Dw.readsAll hok KX ds _ its ha rv;exact⟨_,ReadsW.list ho hc hd hr⟩
 | .tuple ds,_,_,x,r=>by
  cases x with
  |tup hs ha=>
   cases r;obtain⟨its,o,n,rv,ho,hc,hd⟩:=aiA hok KX hs;obtain⟨as,hr⟩:=Dw.readsAll hok KX ds _ its ha rv;exact⟨_,ReadsW.tuple ho hc hd hr⟩
 | .float _,_,_,x,_=>by cases x
 | .dict _,_,_,x,_=>by cases x
 | .bytearray _,_,_,x,_=>by cases x
 | .set _,_,_,x,_=>by cases x
 | .frozenset _,_,_,x,_=>by cases x
 | .obj _ _,_,_,x,_=>by cases x
theorem Dw.readsAll (hok:nY P w H h) (KX:K.In h):∀(ds:List WData) (vs:List V) (us:List Value),vO K H vs ds→Vals vs us→∃as,ReadsAllW R cl h us ds as
 |[],_,_,x,r=>by
  cases x;cases r;exact⟨_,ReadsAllW.nil⟩
 |d::ds,_,_,x,r=>by
  cases x with
  |cons h1 h2=>
   cases r with
   |cons r1 r2=>
    obtain⟨as,q1⟩:=Dw.reads hok KX d _ _ h1 r1;obtain⟨bs,q2⟩:=Dw.readsAll hok KX ds _ _ h2 r2;exact⟨_,ReadsAllW.cons q1 q2⟩
end
end
mutual
/-- data that a codec tells -/
def La:WData→Bool
 | .none=>true
 | .bool _=>true
 | .int _=>true
 | .str _=>true
 | .bytes _=>true
 | .list xs=>Et xs
 | .tuple xs=>Et xs
 |_=>false
def Et:List WData→Bool
 |[]=>true
 |x::r=>La x&&Et r
end
theorem Yw {α:Type}{f:α→WData}(h:∀a,La (f a)=true):∀l:List α,Et (l.map f)=true
 |[]=>rfl
 |x::r=>by
  show(La (f x)&&Et (r.map f))=true;rw[h x,Yw h r]<;>rfl
theorem zj:∀(c:Codec) (a:c.denote),La (c.enc a)=true
 | .unit,_=>rfl
 | .bool,_=>rfl
 | .int _ _,_=>rfl
 | .nat _ _,_=>rfl
 | .u8,_=>rfl
 | .bytes _ _,_=>rfl
 | .text _ _ _ _,_=>rfl
 | .list _ _ c,a=>Yw (fun x=>zj c x) a
 | .pair c d,a=>by
  show(La (c.enc a.1)&&(La (d.enc a.2)&&true))=true;rw[zj c a.1,zj d a.2]<;>rfl
 | .triple c d e,a=>by
  show(La (c.enc a.1)&&(La (d.enc a.2.1)&&(La (e.enc a.2.2)&&true)))=true;rw[zj c a.1,zj d a.2.1,zj e a.2.2]<;>rfl
 | .option c,none=>rfl
 | .option c,some x=>zj c x
theorem Tw:∀(cs:List Codec) (a:Codec.denoteAll cs),Et (Codec.encAll cs a)=true
 |[],_=>rfl
 |c::cs,a=>by
  show(La (c.enc a.1)&&Et (Codec.encAll cs a.2))=true;rw[zj c a.1,Tw cs a.2]<;>rfl
theorem FT:∀{xs:List WData}{d:WData},d∈xs→d.weight≤WData.weightAll xs
 |[],d,h=>absurd h (by simp)
 |x::r,d,h=>by
  show d.weight≤x.weight+1+WData.weightAll r;rcases List.mem_cons.mp h with e|m
  ·rw[e]
   omega
  ·have z:=FT m
   omega
def toV:Value→V
 | .none=> .non
 | .bool b=> .bl b
 | .int i _=> .int i
 | .str x _=> .str x
 | .bytes b _=> .Fe b
 | .ref a=> .ref a
 |_=> .non
def NT (A:List Addr):Value→Prop
 | .none=>True
 | .bool _=>True
 | .int _ _=>True
 | .str _ _=>True
 | .bytes _ _=>True
 | .ref a=>a∈A
 |_=>False
theorem NT.mono {A B:List Addr}(h:∀a∈A,a∈B):∀{u:Value},NT A u→NT B u:=fun{u} x=>by
 cases u with
 |ref a=>exact h a x
 |none=>trivial
 |bool b=>trivial
 |int i t=>trivial
 |str s t=>trivial
 |bytes b t=>trivial
 |_=>exact False.elim x
theorem afD {A:List Addr}{u:Value}(x:NT A u):RelV (toV u) u:=by
 cases u with
 |ref a=>rfl
 |none=>rfl
 |bool b=>rfl
 |int i t=>exact⟨t,rfl⟩
 |str s t=>exact⟨t,rfl⟩
 |bytes b t=>exact⟨t,rfl⟩
 |_=>exact False.elim x
theorem xJ {A:List Addr}:∀{vs:List Value},(∀u∈vs,NT A u)→Vals (vs.map toV) vs
 |[],_=> .nil
 |u::r,h=> .cons (afD (h u (List.mem_cons_self ..))) (xJ fun x hx=>h x (List.mem_cons_of_mem _ hx))
def vP (h:Heap) (A:List Addr) (a:Addr):Prop:=∃vs:List Value,vs.length≤sizeLine∧(∀u∈vs,NT A u)∧
 (h.get? a=some {cls:= .type "list",data:= .seq vs.toArray}∨h.get? a=some {cls:= .type "tuple",data:= .seq vs.toArray})
theorem vP.mono {h:Heap}{A B:List Addr}{a:Addr}(k:∀a∈A,a∈B) (x:vP h A a):vP h B a:=by
 obtain⟨vs,h1,h2,h3⟩:=x;exact⟨vs,h1,fun u hu=>(h2 u hu).mono k,h3⟩
theorem wH {P:Params}{h:Heap}:∀{vs:List Value}{ds:List WData},WellAll P h vs ds→vs.length=ds.length
 |_,_, .nil=>rfl
 |_,_, .cons _ b=>by
  show _+1=_+1;rw[wH b]
theorem Tz {P:Params}{h:Heap}{v:Value}{ds:List WData}(x:Well P h v (.list ds)):∃(a:Addr) (vs:List Value),v= .ref a∧h.get? a=some {cls:= .type "list",data:= .seq vs.toArray}∧WellAll P h vs ds:=by
 cases x with
 |list ho hall=>exact⟨_,_,rfl,ho,hall⟩
theorem Qm {P:Params}{h:Heap}{v:Value}{ds:List WData}(x:Well P h v (.tuple ds)):∃(a:Addr) (vs:List Value),v= .ref a∧h.get? a=some {cls:= .type "tuple",data:= .seq vs.toArray}∧WellAll P h vs ds:=by
 cases x with
 |tuple ho hall=>exact⟨_,_,rfl,ho,hall⟩
theorem TF {P:Params}{h:Heap}{us:List Value}{d:WData}{ds:List WData}(x:WellAll P h us (d::ds)):∃(v:Value) (vs:List Value),us=v::vs∧Well P h v d∧WellAll P h vs ds:=by
 cases x with
 |cons a b=>exact⟨_,_,rfl,a,b⟩
theorem abQ {n:Nat}(h:n≤1048576):n≤sizeLine:=Nat.le_trans h (by decide)
section
variable {P:Params}{h:Heap}
mutual
theorem afE:∀(d:WData) (v:Value),Well P h v d→La d=true→d.weight≤1048576→∃A:List Addr,NT A v∧∀a∈A,vP h A a
 | .none,_,x,_,_=>by
  cases x;exact⟨[],trivial,fun a m=>absurd m (by simp)⟩
 | .bool b,_,x,_,_=>by
  cases x;exact⟨[],trivial,fun a m=>absurd m (by simp)⟩
 | .int i,_,x,_,_=>by
  cases x;exact⟨[],trivial,fun a m=>absurd m (by simp)⟩
 | .str s,_,x,_,_=>by
  cases x;exact⟨[],trivial,fun a m=>absurd m (by simp)⟩
 | .bytes b,_,x,_,_=>by
  cases x;exact⟨[],trivial,fun a m=>absurd m (by simp)⟩
 | .list ds,_,x,p,z=>by
  obtain⟨a,vs,rfl,ho,hall⟩:=Tz x;have z2:WData.weightAll ds≤1048576:=z;obtain⟨A,h1,h2⟩:=Hz ds _ hall p fun d hd=>Nat.le_trans (FT hd) z2
  have k:∀b∈A,b∈a::A:=fun b hb=>List.mem_cons_of_mem _ hb
  refine⟨a::A,List.mem_cons_self ..,fun b hb=>?_⟩;rcases List.mem_cons.mp hb with e|m
  ·rw[e]
   exact⟨vs,abQ (by rw[wH hall];exact Nat.le_trans (PySem.W.length_le_weightAllW ds) z2),fun u hu=>(h1 u hu).mono k, .inl ho⟩
  ·exact(h2 b m).mono k
 | .tuple ds,_,x,p,z=>by
  obtain⟨a,vs,rfl,ho,hall⟩:=Qm x;have z2:WData.weightAll ds≤1048576:=z;obtain⟨A,h1,h2⟩:=Hz ds _ hall p fun d hd=>Nat.le_trans (FT hd) z2
  have k:∀b∈A,b∈a::A:=fun b hb=>List.mem_cons_of_mem _ hb
  refine⟨a::A,List.mem_cons_self ..,fun b hb=>?_⟩;rcases List.mem_cons.mp hb with e|m
  ·rw[e]
   exact⟨vs,abQ (by rw[wH hall];exact Nat.le_trans (PySem.W.length_le_weightAllW ds) z2),fun u hu=>(h1 u hu).mono k, .inr ho⟩
  ·exact(h2 b m).mono k
 | .float _,_,_,p,_=>Bool.noConfusion (show false=true from p)
 | .dict _,_,_,p,_=>Bool.noConfusion (show false=true from p)
 | .bytearray _,_,_,p,_=>Bool.noConfusion (show false=true from p)
 | .set _,_,_,p,_=>Bool.noConfusion (show false=true from p)
 | .frozenset _,_,_,p,_=>Bool.noConfusion (show false=true from p)
 | .obj _ _,_,_,p,_=>Bool.noConfusion (show false=true from p)
theorem Hz:∀(ds:List WData) (vs:List Value),WellAll P h vs ds→Et ds=true→(∀d∈ds,d.weight≤1048576)→∃A:List Addr,(∀u∈vs,NT A u)∧∀a∈A,vP h A a
 |[],_,x,_,_=>by
  cases x;exact⟨[],fun u m=>absurd m (by simp),fun a m=>absurd m (by simp)⟩
 |d::ds,_,x,p,z=>by
  obtain⟨v,vs,rfl,x1,x2⟩:=TF x;have q:La d=true∧Et ds=true:=Bool.and_eq_true_iff.mp p;obtain⟨A,a1,a2⟩:=afE d v x1 q.1 (z d (List.mem_cons_self ..));obtain⟨B,b1,b2⟩:=Hz ds vs x2 q.2 fun e he=>z e (List.mem_cons_of_mem _ he)
  have kA:∀b∈A,b∈A++B:=fun b hb=>List.mem_append.mpr (.inl hb)
  have kB:∀b∈B,b∈A++B:=fun b hb=>List.mem_append.mpr (.inr hb)
  refine⟨A++B,fun u hu=>?_,fun b hb=>?_⟩
  ·rcases List.mem_cons.mp hu with e|m
   ·rw[e]
    exact a1.mono kA
   ·exact(b1 u m).mono kB
  ·rcases List.mem_append.mp hb with m|m
   ·exact(a2 b m).mono kA
   ·exact(b2 b m).mono kB
end
end
def ae3 (o:Obj):Option HO:=match o.data with
 | .seq vs _=>if (o.cls==Value.type "list")=true then some (.cM o (.lst (vs.toList.map toV)))else some (.cM o (.tup (vs.toList.map toV)))
 |_=>none
def su (K:PySem.W.Frag) (h:Heap) (A:List Addr):Hp:=fun b=>if b∈A then(if (K.lookup b).isNone=true then(h.get? b).bind ae3 else none)else none
def TJ (H:Hp):Prop:=∀b,H b=none∨∃o u,H b=some (.cM o u)
theorem Yx (vs:List Value):ae3 {cls:= .type "list",data:= .seq vs.toArray}=some (.cM {cls:= .type "list",data:= .seq vs.toArray} (.lst (vs.map toV))):=by
 show(if (Value.type "list"==Value.type "list")=true then some (HO.cM {cls:= .type "list",data:= .seq vs.toArray} (.lst (vs.toArray.toList.map toV)))else some (HO.cM {cls:= .type "list",data:= .seq vs.toArray} (.tup (vs.toArray.toList.map toV))))=_;rw[if_pos (beq_self_eq_true _)]
theorem Yy (vs:List Value):ae3 {cls:= .type "tuple",data:= .seq vs.toArray}=some (.cM {cls:= .type "tuple",data:= .seq vs.toArray} (.tup (vs.map toV))):=by
 show(if (Value.type "tuple"==Value.type "list")=true then some (HO.cM {cls:= .type "tuple",data:= .seq vs.toArray} (.lst (vs.toArray.toList.map toV)))else some (HO.cM {cls:= .type "tuple",data:= .seq vs.toArray} (.tup (vs.toArray.toList.map toV))))=_;rw[if_neg (by decide)]
section
variable {P:Program}{w:World}{K:PySem.W.Frag}{h:Heap}{A:List Addr}
theorem Lb {b:Addr}{o:Obj}(hb:b∈A) (hk:K.lookup b=none) (e:h.get? b=some o):su K h A b=ae3 o:=by
 unfold su;rw[if_pos hb,hk,if_pos (show(none:Option Obj).isNone=true from rfl),e]<;>rfl
theorem ag6 {b:Addr}{u:HO}(q:su K h A b=some u):b∈A∧K.lookup b=none:=by
 unfold su at q;by_cases hb:b∈A
 ·rw[if_pos hb]at q
  cases hk:K.lookup b with
  |none=>exact⟨hb,rfl⟩
  |some o=>
   rw[hk,if_neg (by simp)]at q;cases q
 ·rw[if_neg hb]at q
  cases q
theorem Ld (ar:∀a∈A,vP h A a){b:Addr}{u:HO}(q:su K h A b=some u):K.lookup b=none∧∃vs:List Value,vs.length≤sizeLine∧(∀u∈vs,NT A u)∧
  ((h.get? b=some {cls:= .type "list",data:= .seq vs.toArray}∧u= .cM {cls:= .type "list",data:= .seq vs.toArray} (.lst (vs.map toV)))∨
   (h.get? b=some {cls:= .type "tuple",data:= .seq vs.toArray}∧u= .cM {cls:= .type "tuple",data:= .seq vs.toArray} (.tup (vs.map toV)))):=by
 obtain⟨hb,hk⟩:=ag6 q;obtain⟨vs,h1,h2,h3⟩:=ar b hb;refine⟨hk,vs,h1,h2,?_⟩;rcases h3 with e|e
 ·rw[Lb hb hk e,Yx]at q
  exact .inl ⟨e,(Option.some.inj q).symm⟩
 ·rw[Lb hb hk e,Yy]at q
  exact .inr ⟨e,(Option.some.inj q).symm⟩
theorem adQ (ar:∀a∈A,vP h A a):TJ (su K h A):=fun b=>by
 cases q:su K h A b with
 |none=>exact .inl rfl
 |some u=>
  obtain⟨_,vs,_,_,⟨_,e⟩|⟨_,e⟩⟩:=Ld ar q
  ·exact .inr ⟨_,_,by rw[e]⟩
  ·exact .inr ⟨_,_,by rw[e]⟩
theorem ag7 (ar:∀a∈A,vP h A a):nY P w (su K h A) h:=fun b u q=>by
 obtain⟨_,vs,h1,h2,⟨e,rfl⟩|⟨e,rfl⟩⟩:=Ld ar q
 ·exact⟨e,by rw[List.length_map];exact h1,vs,_,xJ h2,e⟩
 ·exact⟨e,by rw[List.length_map];exact h1,vs,xJ h2,_,e,rfl,_,rfl⟩
theorem Le {c c':Value}{vs us:List Value}(e:(some {cls:=c,data:= .seq vs.toArray}:Option Obj)=some {cls:=c',data:= .seq us.toArray}):c=c'∧vs=us:=by
 have e1:=Option.some.inj e;have e2:c=c':=congrArg Obj.cls e1;have e3:Data.seq vs.toArray=Data.seq us.toArray:=congrArg Obj.data e1;injection e3 with e4
 refine⟨e2,?_⟩;have e5:=congrArg Array.toList e4;simpa using e5
theorem akh (KX:K.In h) (ar:∀a∈A,vP h A a){a:Addr}{vs:List Value}(ha:a∈A) (e:h.get? a=some {cls:= .type "list",data:= .seq vs.toArray}):(∀u∈vs,NT A u)∧dR K (su K h A) a (vs.map toV):=by
 obtain⟨us,h1,h2,h3⟩:=ar a ha;have hu:us=vs:=by
  rcases h3 with q|q
  ·rw[e]at q
   exact(Le q).2.symm
  ·rw[e]at q
   exact absurd (Value.type.inj (Le q).1) (by decide)
 subst hu;refine⟨h2,?_⟩;cases hk:K.lookup a with
 |none=>exact .inl (.inr ⟨_,by rw[Lb ha hk e,Yx]⟩)
 |some o=>
  have e2:=KX a o hk;rw[e]at e2;obtain rfl:=Option.some.inj e2;exact .inr ⟨_,us.toArray,_,hk,rfl,rfl,rfl,by rw[List.size_toArray];exact h1,by simpa using xJ h2⟩
theorem aki (KX:K.In h) (ar:∀a∈A,vP h A a){a:Addr}{vs:List Value}(ha:a∈A) (e:h.get? a=some {cls:= .type "tuple",data:= .seq vs.toArray}):(∀u∈vs,NT A u)∧Sv K (su K h A) a (vs.map toV):=by
 obtain⟨us,h1,h2,h3⟩:=ar a ha;have hu:us=vs:=by
  rcases h3 with q|q
  ·rw[e]at q
   exact absurd (Value.type.inj (Le q).1) (by decide)
  ·rw[e]at q
   exact(Le q).2.symm
 subst hu;refine⟨h2,?_⟩;cases hk:K.lookup a with
 |none=>exact .inl (.inr ⟨_,by rw[Lb ha hk e,Yy]⟩)
 |some o=>
  have e2:=KX a o hk;rw[e]at e2;obtain rfl:=Option.some.inj e2;exact .inr ⟨_,us.toArray,_,hk,rfl,rfl,by rw[List.size_toArray];exact h1,by simpa using xJ h2⟩
mutual
theorem aiB {Pm:Params}(KX:K.In h) (ar:∀a∈A,vP h A a):∀(d:WData) (v:Value),Well Pm h v d→La d=true→NT A v→Dw K (su K h A) (toV v) d
 | .none,_,x,_,_=>by
  cases x;exact .non
 | .bool b,_,x,_,_=>by
  cases x;exact .bl b
 | .int i,_,x,_,_=>by
  cases x;exact .int i
 | .str s,_,x,_,_=>by
  cases x;exact .str s
 | .bytes b,_,x,_,_=>by
  cases x;have z:=Dw.Fe (K:=K) (H:=su K h A) b.toArray;exact z
 | .list ds,_,x,p,hu=>by
  obtain⟨a,vs,rfl,ho,hall⟩:=Tz x;obtain⟨h2,hs⟩:=akh KX ar hu ho;exact .lst hs (R7 KX ar ds _ hall p h2)
 | .tuple ds,_,x,p,hu=>by
  obtain⟨a,vs,rfl,ho,hall⟩:=Qm x;obtain⟨h2,hs⟩:=aki KX ar hu ho;exact .tup hs (R7 KX ar ds _ hall p h2)
 | .float _,_,_,p,_=>Bool.noConfusion (show false=true from p)
 | .dict _,_,_,p,_=>Bool.noConfusion (show false=true from p)
 | .bytearray _,_,_,p,_=>Bool.noConfusion (show false=true from p)
 | .set _,_,_,p,_=>Bool.noConfusion (show false=true from p)
 | .frozenset _,_,_,p,_=>Bool.noConfusion (show false=true from p)
 | .obj _ _,_,_,p,_=>Bool.noConfusion (show false=true from p)
theorem R7 {Pm:Params}(KX:K.In h) (ar:∀a∈A,vP h A a):∀(ds:List WData) (vs:List Value),WellAll Pm h vs ds→Et ds=true→(∀u∈vs,NT A u)→vO K (su K h A) (vs.map toV) ds
 |[],_,x,_,_=>by
  cases x;exact .nil
 |d::ds,_,x,p,hu=>by
  obtain⟨v,vs,rfl,x1,x2⟩:=TF x;have q:La d=true∧Et ds=true:=Bool.and_eq_true_iff.mp p;exact .cons (aiB KX ar d v x1 q.1 (hu _ (List.mem_cons_self ..))) (R7 KX ar ds vs x2 q.2 fun u m=>hu u (List.mem_cons_of_mem _ m))
end
end
theorem adR {P:Program}{w:World}{K:PySem.W.Frag}{mg mb:Str→Option Value}{CX:QK}{k:Nat}{fa:Addr}{fd:FuncData}{ps:List Str}{sp:Sp}{s₁:Shared}{vals:List Value}{ds:List WData}{R:PySem.W.WRecords}{cl:Str→Option Addr}{d0:WData}
  (KX:K.In s₁.heap) (hns:s₁.heap.Ns mainGlobals mg) (hb:s₁.heap.Ns builtinsNs mb) (hbb:∀x:Str,x≠"__name__"→mb x=bootBuiltins x) (hlim:s₁.heap.NoLimit) (hg:s₁.gens= #[])
  (hwl:WellAll w.params s₁.heap vals ds) (hpl:Et ds=true) (hwt:∀d∈ds,d.weight≤1048576) (hr:iY k callerA)
  (F:∀base:Heap,K.In base→base.Ns mainGlobals mg→bK P w K mg base CX k fa fd ps sp) (hbind:∀(s:Shared) (us:List Value),us.length=ps.length→BindsTo s fd ⟨us,[]⟩ (ps.zip us)) (hlen:ds.length=ps.length)
  (hsp:∀(H:Hp) (xs:List V),TJ H→vO K H xs ds→sp xs H (fun v H'=>Dw K H' v d0) fun _ _ _=>False)
  (hCX:∀H e s',CX [] H s₁ (fun _ _ _=>False) e s'→False):
  codeAny (model P w) callerA (.call (.ref fa) ⟨vals,[]⟩) (fun r s'=>∃u as,r= .ok (.ret u)∧ReadsW R cl s'.heap u d0 as∧OldK s₁.heap s'.heap∧s'.os=s₁.os∧AllBare s'.gens) s₁:=by
 obtain⟨A,ho,ar⟩:=Hz ds vals hwl hpl hwt;have hO:TJ (su K s₁.heap A):=adQ ar;have hok:nY P w (su K s₁.heap A) s₁.heap:=ag7 ar;have hS:=R7 KX ar ds vals hwl hpl ho;have hV:=xJ ho;have hK:∀b u,su K s₁.heap A b=some u→K.lookup b=none:=fun b u q=>(Ld ar q).1
 have noA:∀{b:Addr}{o:Obj}{es:Array DictEntry}{ep:Nat},s₁.heap.get? b=some o→o.data= .dict es ep→su K s₁.heap A b=none:=fun{b o es ep} e d=>by
  cases q:su K s₁.heap A b with
  |none=>rfl
  |some u=>
   obtain⟨_,vs,_,_,⟨e2,_⟩|⟨e2,_⟩⟩:=Ld ar q
   ·rw[e2]at e
    cases e;have d':Data.seq vs.toArray _=Data.dict es ep:=d;cases d'
   ·rw[e2]at e
    cases e;have d':Data.seq vs.toArray _=Data.dict es ep:=d;cases d'
 generalize su K s₁.heap A=H at hO hok hS hK noA;have abR:∀{b:Addr}{o:Obj},s₁.heap.get? b=some o→H b=none→(Ky s₁.heap H).get? b=some o:=fun e n=>afo e n
 have nsK:∀{b:Addr}{m:Str→Option Value},s₁.heap.Ns b m→(Ky s₁.heap H).Ns b m:=fun{b m} ⟨o,es,ep,e,d,r⟩=>⟨o,es,ep,abR e (noA e d),d,r⟩
 have nK:∀b o,K.lookup b=some o→H b=none:=fun b o e=>by
  cases q:H b with
  |none=>rfl
  |some u=>
   rw[hK b u q]at e;cases e
 have hKb:K.In (Ky s₁.heap H):=fun b o e=>abR (KX b o e) (nK b o e)
 have hM:Mod K mg (Ky s₁.heap H):=⟨hKb,nsK hns,⟨mb,nsK hb,hbb⟩,let⟨mc,h1,h2⟩:=hlim;⟨mc,nsK h1,h2⟩⟩;have e0:Iw P w K mg (Ky s₁.heap H) callerA [] s₁ H:=⟨rfl,hM,fun b o e=>agt e,Nat.le_of_eq (adq _ _),trivial,fun b hb=>absurd (show b∈([]:List Addr)from hb) (by simp),hok, .of_eq hg⟩;have hl:vals.length=ps.length:=by rw[wH hwl];exact hlen
 refine codeAny_mono ((F _ hKb (nsK hns)).run callerA [] s₁ H ⟨vals,[]⟩ vals (vals.map toV) _ _ hr e0 (hbind s₁ vals hl) hV (hsp H _ hO hS)) fun r s' x=>?_
 cases r with
 |error e=>exact(hCX H e s' x).elim
 |ok fl=>
  cases fl with
  |next=>exact False.elim x
  |brk=>exact False.elim x
  |cont=>exact False.elim x
  |ret u=>
   obtain⟨v,H',os,bare,un,hok',r',q⟩:=x;have kept:∀b o,s₁.heap.get? b=some o→s'.heap.get? b=some o:=fun b o e=>by
    cases q2:H b with
    |none=>exact un.keep b o e q2 (by intro z;exact absurd (show b∈([]:List Addr)from z) (by simp)) (by simp)
    |some u2=>
     rcases hO b with z|⟨ob,u3,z⟩
     ·rw[q2]at z
      cases z
     ·have z2:=un.Fo b ob _ z
      obtain⟨e1,_⟩:=hok b _ z;obtain⟨e2,_⟩:=hok' b _ z2;rw[e]at e1;cases e1;exact e2
   have KX':K.In s'.heap:=fun b o e=>kept b o (KX b o e)
   obtain⟨as,hrd⟩:=Dw.reads (R:=R) (cl:=cl) hok' KX' d0 v u q r';exact⟨u,as,rfl,hrd,OldK.of_keep kept,os,bare⟩
theorem QM {ds:List WData}(h:WData.layableAll ds=true):∀d∈ds,d.weight≤1048576:=fun d hd=>
 (PySem.W.layableW_iff.mp (List.all_eq_true.mp h d hd)).2.2
theorem Qn:∀(cs:List Codec) (a:Codec.denoteAll cs),(Codec.encAll cs a).length=cs.length
 |[],_=>rfl
 |c::cs,a=>by
  show(Codec.encAll cs a.2).length+1=cs.length+1;rw[Qn cs a.2]
theorem adS {r:OpenSpec}{k:Nat}{q:Program}{loose:List Str}{XP:(Str→Option Value)→Heap→Prop}{YP:World→Heap→Prop}{d:DefRec}{K:Params→PySem.W.Frag}{CX:World→QK}{ps:List Str}{sp:World→Sp}
  (adT:r.wellSaid=true) (hdf:d.params.defaults=[]) (hlen:r.args.length=ps.length) (hr:iY k callerA)
  (hY:∀(w:World) (h:Heap),YP w h→(K w.params).In h)
  (F:∀(w:World) (mg:Str→Option Value) (fa:Addr) (h:Heap),YP w h→(K w.params).In h→h.Ns mainGlobals mg→mg d.name=some (.ref fa)→
   ∃fd:FuncData,(∀(s:Shared) (us:List Value),us.length=ps.length→BindsTo s fd ⟨us,[]⟩ (ps.zip us))∧
    ∀base:Heap,(K w.params).In base→base.Ns mainGlobals mg→bK r.prog w (K w.params) mg base (CX w) k fa fd ps (sp w))
  (hsp:∀(w:World) (H:Hp) (xs:List V) (a:Codec.denoteAll r.args),TJ H→Codec.withinAll r.args a=true→Codec.app r.args r.asked a=true→vO (K w.params) H xs (Codec.encAll r.args a)→
   sp w xs H (fun v H'=>Dw (K w.params) H' v (r.ret.enc (Codec.app r.args r.f a))) fun _ _ _=>False)
  (hCX:∀(w:World) (H:Hp) (s:Shared) (e:Value) (s':Shared),CX w [] H s (fun _ _ _=>False) e s'→False):
  PySem.W.WalkOS q loose XP YP r d [] (fun f vs=>PySem.call f vs):=by
 intro w s_0 s₁ mg mb G Y fa o pm cd doc dV kV ho hd hcd hD hmg hg args vals as hpre hlay hrd hwl hlo;obtain⟨a,e1,e2⟩:=PySem.W.os_pre_some hpre;obtain⟨e3,hwi⟩:=Codec.encAll_of_decAll r.args args a e1;subst e3;have KX:=hY w _ Y;obtain⟨fd,hb,hF⟩:=F w mg fa _ Y KX G.T.g hmg;refine PySem.W.enter_call (codeAny_mono (adR (R:=[]) (cl:=classAt s_0.heap) (d0:=r.ret.enc (Codec.app r.args r.f a)) KX G.T.g G.T.b G.T.builtins G.T.nolimit hg hwl (Tw _ _) (QM hlay) hr hF hb (by rw[Qn];exact hlen)
  (fun H xs hO hS=>hsp w H xs a hO hwi e2 hS) fun H e s'=>hCX w H s₁ e s') fun r' s' hq=>?_)
 obtain⟨u,as',rfl,h1,h2,h3,h4⟩:=hq;exact⟨.inl ⟨u,_,as',rfl,fun _=>rfl,h1,(OpenSpec.post_iff adT hwi _ _).mpr rfl,fun z=>Bool.noConfusion (show false=true from z)⟩,h2,h3,h4⟩
theorem abS {r:OpenSpec}{k:Nat}{q:Program}{loose:List Str}{XP:(Str→Option Value)→Heap→Prop}{YP:World→Heap→Prop}{d:DefRec}{K:Params→PySem.W.Frag}{CX:QK}{ps:List Str}{sp:PySem.W.Frag→Sp}
  (adT:r.wellSaid=true) (hdf:d.params.defaults=[]) (hlen:r.args.length=ps.length) (hr:iY k callerA)
  (hY:∀(w:World) (h:Heap),YP w h→(K w.params).In h)
  (F:∀(w:World) (mg:Str→Option Value) (fa:Addr) (h:Heap),YP w h→(K w.params).In h→h.Ns mainGlobals mg→mg d.name=some (.ref fa)→
   ∃fd:FuncData,(∀(s:Shared) (us:List Value),us.length=ps.length→BindsTo s fd ⟨us,[]⟩ (ps.zip us))∧
    ∀base:Heap,(K w.params).In base→base.Ns mainGlobals mg→bK r.prog w (K w.params) mg base CX k fa fd ps (sp (K w.params)))
  (hsp:∀(K:PySem.W.Frag) (H:Hp) (xs:List V) (a:Codec.denoteAll r.args),TJ H→Codec.withinAll r.args a=true→Codec.app r.args r.asked a=true→vO K H xs (Codec.encAll r.args a)→
   sp K xs H (fun v H'=>Dw K H' v (r.ret.enc (Codec.app r.args r.f a))) fun _ _ _=>False)
  (hCX:∀(H:Hp) (s:Shared) (e:Value) (s':Shared),CX [] H s (fun _ _ _=>False) e s'→False):
  PySem.W.WalkOS q loose XP YP r d [] (fun f vs=>PySem.call f vs):=
 adS (K:=K) (CX:=fun _=>CX) (sp:=fun w=>sp (K w.params)) adT hdf hlen hr hY F (fun w H xs a h1 h2 h3 h4=>hsp (K w.params) H xs a h1 h2 h3 h4) fun _ H s e s'=>hCX H s e s'
end L2
end
end
section
namespace Kd
open Kh
abbrev jX (l:List Nat):Prop:=l.Pairwise (·<·)
theorem oh:∀{a b:List Nat},jX a→jX b→(∀x,x∈a↔x∈b)→a=b
 |[],[],_,_,_=>rfl
 |[],y::b,_,_,h=>absurd ((h y).2 (List.mem_cons_self ..)) (by simp)
 |x::a,[],_,_,h=>absurd ((h x).1 (List.mem_cons_self ..)) (by simp)
 |x::a,y::b,ha,hb,h=>by
  have ha':=List.pairwise_cons.mp ha;have hb':=List.pairwise_cons.mp hb;have e:x=y:=by
   rcases List.mem_cons.mp ((h x).1 (List.mem_cons_self ..))with e|m
   ·exact e
   ·rcases List.mem_cons.mp ((h y).2 (List.mem_cons_self ..))with e|m'
    ·exact e.symm
    ·have h1:=hb'.1 _ m
     have h2:=ha'.1 _ m';omega
  subst e;have:a=b:=oh ha'.2 hb'.2 fun z=>by
   constructor
   ·intro m
    rcases List.mem_cons.mp ((h z).1 (List.mem_cons_of_mem _ m))with e|m'
    ·have:=ha'.1 _ m
     omega
    ·exact m'
   ·intro m
    rcases List.mem_cons.mp ((h z).2 (List.mem_cons_of_mem _ m))with e|m'
    ·have:=hb'.1 _ m
     omega
    ·exact m'
  rw[this]
theorem iu {l:List Nat}(h:jX l):l.Nodup:=h.imp fun h=>Nat.ne_of_lt h
theorem eE (n:Nat):jX (List.range n):=List.pairwise_lt_range
theorem dB {l:List Nat}(p:Nat→Bool) (h:jX l):jX (l.filter p):=h.filter p
theorem xU {n x:Nat}:∀{l:List Nat},x∈insertNum n l↔x=n∨x∈l
 |[]=>by simp[insertNum]
 |y::r=>by
  unfold insertNum
  split
  ·rename_i e
   subst e;simp
  ·split
   ·simp
   ·rw[List.mem_cons,xU,List.mem_cons]
    constructor
    ·rintro(h|h|h)
     ·exact .inr (.inl h)
     ·exact .inl h
     ·exact .inr (.inr h)
    ·rintro(h|h|h)
     ·exact .inr (.inl h)
     ·exact .inl h
     ·exact .inr (.inr h)
theorem FW {n:Nat}:∀{l:List Nat},jX l→jX (insertNum n l)
 |[],_=>by simp[insertNum]
 |y::r,h=>by
  have h':=List.pairwise_cons.mp h;unfold insertNum
  split
  ·exact h
  ·split
   ·rename_i h2
    refine List.pairwise_cons.mpr ⟨fun z m=>?_,h⟩;rcases List.mem_cons.mp m with e|m
    ·omega
    ·have:=h'.1 _ m
     omega
   ·rename_i h1 h2
    refine List.pairwise_cons.mpr ⟨fun z m=>?_,FW h'.2⟩;rcases xU.mp m with e|m
    ·omega
    ·exact h'.1 _ m
theorem wI {α:Type}{f:α→Nat}{x:Nat}:∀(as:List α) (l:List Nat),x∈as.foldl (fun r a=>insertNum (f a) r) l↔x∈l∨∃a∈as,f a=x
 |[],l=>by simp
 |a::as,l=>by
  rw[List.foldl_cons,wI as,xU];constructor
  ·rintro((h|h)|⟨b,m,e⟩)
   ·exact .inr ⟨a,List.mem_cons_self ..,h.symm⟩
   ·exact .inl h
   ·exact .inr ⟨b,List.mem_cons_of_mem _ m,e⟩
  ·rintro(h|⟨b,m,e⟩)
   ·exact .inl (.inr h)
   ·rcases List.mem_cons.mp m with e'|m
    ·subst e'
     exact .inl (.inl e.symm)
    ·exact .inr ⟨b,m,e⟩
theorem wJ {α:Type}{f:α→Nat}:∀(as:List α) (l:List Nat),jX l→jX (as.foldl (fun r a=>insertNum (f a) r) l)
 |[],_,h=>h
 |a::as,l,h=>by
  rw[List.foldl_cons];exact wJ as _ (FW h)
inductive Reach {α:Type}(E:α→α→Prop) (r:α):α→Prop
 |base:Reach E r r
 |step {x y:α}:Reach E r x→E x y→Reach E r y
theorem Reach.trans {α:Type}{E:α→α→Prop}{r s t:α}(a:Reach E r s) (b:Reach E s t):Reach E r t:=by
 induction b with
 |base=>exact a
 |step _ e ih=>exact ih.step e
theorem Reach.head {α:Type}{E:α→α→Prop}{r s t:α}(e:E r s) (b:Reach E s t):Reach E r t:=(Reach.base.step e).trans b
theorem Reach.mono {α:Type}{E F:α→α→Prop}(h:∀x y,E x y→F x y){r t:α}(a:Reach E r t):Reach F r t:=by
 induction a with
 |base=>exact .base
 |step _ e ih=>exact ih.step (h _ _ e)
theorem Reach.iff {α:Type}{E F:α→α→Prop}(h:∀x y,E x y↔F x y){r t:α}:Reach E r t↔Reach F r t:=⟨.mono fun x y=>(h x y).1, .mono fun x y=>(h x y).2⟩
theorem Reach.closed {α:Type}{E:α→α→Prop}{P:α→Prop}{r t:α}(a:Reach E r t) (h0:P r) (hs:∀x y,P x→E x y→P y):P t:=by
 induction a with
 |base=>exact h0
 |step _ e ih=>exact hs _ _ ih e
abbrev InW (ways:List (Nat×Nat)) (x y:Nat):Prop:=(x,y)∈ways
theorem sE {ways:List (Nat×Nat)}{l:List Nat}{x:Nat}:x∈further ways l↔x∈l∨∃a∈l,(a,x)∈ways:=by
 unfold further;rw[wI];constructor
 ·rintro(h|⟨⟨a,b⟩,m,e⟩)
  ·exact .inl h
  ·have m':=List.mem_filter.mp m
   have e':b=x:=e;subst e';exact .inr ⟨a,by simpa using m'.2,m'.1⟩
 ·rintro(h|⟨a,m,w⟩)
  ·exact .inl h
  ·exact .inr ⟨(a,x),List.mem_filter.mpr ⟨w,by simpa using m⟩,rfl⟩
theorem Lf {ways:List (Nat×Nat)}{l:List Nat}(h:jX l):jX (further ways l):=wJ _ _ h
theorem FZ {a b:List Nat}(ha:jX a) (hb:jX b) (h:∀x,x∈a→x∈b) (hl:b.length≤a.length):a=b:=by
 refine oh ha hb fun x=>⟨h x,fun m=>?_⟩
 apply Classical.byContradiction;intro hn;have nd:(x::a).Nodup:=List.nodup_cons.mpr ⟨hn,iu ha⟩;have:=nd.length_le_of_subset (l₂:=b) (fun z hz=>by
  rcases List.mem_cons.mp hz with e|e
  ·rw[e];exact m
  ·exact h z e)
 rw[List.length_cons]at this;omega
theorem Gd {ways:List (Nat×Nat)}{R:Nat}(hw:∀x y,(x,y)∈ways→y<R):∀(n:Nat) (l:List Nat),jX l→(∀x∈l,x<R)→R<l.length+n→
  jX (furthest ways n l)∧(∀x,x∈furthest ways n l↔∃a∈l,Reach (InW ways) a x)
 |0,l,hl,hb,hn=>by
  have:=(iu hl).length_le_of_subset (l₂:=List.range R) (fun z hz=>List.mem_range.mpr (hb z hz));rw[List.length_range]at this;omega
 |n+1,l,hl,hb,hn=>by
  unfold furthest;show jX (if (further ways l).length=l.length then l else furthest ways n (further ways l))∧_
  split
  ·rename_i e
   have e':l=further ways l:=FZ hl (Lf hl) (fun x m=>sE.mpr (.inl m)) (by omega);refine⟨hl,fun x=>?_⟩;rw[if_pos e];constructor
   ·intro m
    exact⟨x,m, .base⟩
   ·rintro⟨a,m,c⟩
    refine c.closed m fun y z hy hyz=>?_
    rw[e'];exact sE.mpr (.inr ⟨y,hy,hyz⟩)
  ·rename_i e
   have sub:∀x∈l,x∈further ways l:=fun x m=>sE.mpr (.inl m)
   have hlen:l.length≤(further ways l).length:=(iu hl).length_le_of_subset sub;have ih:=Gd hw n (further ways l) (Lf hl) (fun x m=>by
    rcases sE.mp m with m|⟨a,_,w⟩
    ·exact hb x m
    ·exact hw _ _ w) (by omega)
   refine⟨ih.1,fun x=>?_⟩;rw[if_neg e,ih.2];constructor
   ·rintro⟨a,m,c⟩
    rcases sE.mp m with m|⟨a',m',w⟩
    ·exact⟨a,m,c⟩
    ·exact⟨a',m', .head w c⟩
   ·rintro⟨a,m,c⟩
    exact⟨a,sub a m,c⟩
def cQ (h:House):Prop:=∀d∈h.doors,d.a<h.rooms∧d.b<h.rooms
theorem xV {h:House}{s:Nat}(hs:s<2*h.doors.length):∃d,h.doors[s/2]?=some d∧d∈h.doors:=by
 have:s/2<h.doors.length:=by omega
 exact⟨h.doors[s/2],List.getElem?_eq_getElem this,List.getElem_mem this⟩
theorem rB {h:House}(hd:cQ h){s:Nat}(hs:s<2*h.doors.length):h.behind s<h.rooms:=by
 obtain⟨d,e,m⟩:=xV hs;unfold House.behind;rw[e];show(if s%2=0 then d.b else d.a)<h.rooms
 split
 ·exact(hd d m).2
 ·exact(hd d m).1
theorem TQ {h:House}(hd:cQ h){s:Nat}(hs:s<2*h.doors.length):h.before s<h.rooms:=by
 obtain⟨d,e,m⟩:=xV hs;unfold House.before;rw[e];show(if s%2=0 then d.a else d.b)<h.rooms
 split
 ·exact(hd d m).1
 ·exact(hd d m).2
theorem lR {h:House}{s:Nat}:s∈h.sides↔s<2*h.doors.length:=List.mem_range
def Eu (h:House) (b:Bunch) (x y:Nat):Prop:=∃s,s<2*h.doors.length∧h.passes b s=true∧h.before s=x∧h.behind s=y
theorem NZ {h:House}{b:Bunch}{x y:Nat}:(x,y)∈h.ways b↔Eu h b x y:=by
 unfold House.ways;rw[List.mem_map];constructor
 ·rintro⟨s,m,e⟩
  have m':=List.mem_filter.mp m;have e':=Prod.mk.inj e;exact⟨s,lR.mp m'.1,m'.2,e'.1,e'.2⟩
 ·rintro⟨s,hs,hp,rfl,rfl⟩
  exact⟨s,List.mem_filter.mpr ⟨lR.mpr hs,hp⟩,rfl⟩
theorem uW {h:House}(hd:cQ h) (b:Bunch){r:Nat}(hr:r<h.rooms):jX (h.reached b r)∧∀t,t∈h.reached b r↔Reach (Eu h b) r t:=by
 have key:=Gd (ways:=h.ways b) (R:=h.rooms) (fun x y m=>by
  obtain⟨s,hs,_,_,e⟩:=NZ.mp m;rw[←e];exact rB hd hs) h.rooms [r] (by simp) (by simpa using hr) (by simp)
 refine⟨key.1,fun t=>?_⟩;show t∈furthest (h.ways b) h.rooms [r]↔_;rw[key.2];constructor
 ·rintro⟨a,m,c⟩
  rw[List.mem_singleton]at m;subst m;exact(Reach.iff fun x y=>NZ).mp c
 ·intro c
  exact⟨r,List.mem_singleton.mpr rfl,(Reach.iff fun x y=>NZ).mpr c⟩
theorem iw {h:House}(hd:cQ h){b:Bunch}{r t:Nat}(hr:r<h.rooms):h.leads b r t=true↔Reach (Eu h b) r t:=by
 unfold House.leads;rw[List.contains_iff_mem];exact(uW hd b hr).2 t
theorem HB {h:House}(hd:cQ h){b:Bunch}{r t:Nat}(hr:r<h.rooms) (c:Reach (Eu h b) r t):t<h.rooms:=by
 refine Reach.closed (P:=fun t=>t<h.rooms) c hr fun x y _ e=>?_
 obtain⟨s,hs,_,_,e⟩:=e;rw[←e];exact rB hd hs
end Kd
end
section
namespace Kd
open Kh
theorem xW (h:House) (s:Nat):(h.without s).rooms=h.rooms:=rfl
theorem wK (h:House) (s:Nat):(h.without s).doors.length=h.doors.length:=by
 show(h.doors.modify _ _).length=_;exact List.length_modify _ _ _
theorem p7 (h:House) (s j:Nat):(h.without s).doors[j]?=(h.doors[j]?).map fun d=>if s/2=j then(if s%2=0 then{d with sa:= .shut}else{d with sb:= .shut})else d:=by
 show(h.doors.modify (s/2) _)[j]?=_;rw[List.getElem?_modify];cases h.doors[j]? with
 |none=>rfl
 |some d=>
  show some _=some _;by_cases e:s/2=j<;>simp[e]
theorem vQ (h:House) (s t:Nat):(h.without s).before t=h.before t:=by
 unfold House.before;rw[p7];cases h.doors[t/2]? with
 |none=>rfl
 |some d=>
  show(if t%2=0 then _ else _)=(if t%2=0 then _ else _);by_cases e:s/2=t/2<;>by_cases e2:s%2=0<;>simp[e,e2]
theorem Ew (h:House) (s t:Nat):(h.without s).behind t=h.behind t:=by
 unfold House.behind;rw[p7];cases h.doors[t/2]? with
 |none=>rfl
 |some d=>
  show(if t%2=0 then _ else _)=(if t%2=0 then _ else _);by_cases e:s/2=t/2<;>by_cases e2:s%2=0<;>simp[e,e2]
theorem Bb (h:House){s t:Nat}(n:t≠s):(h.without s).side t=h.side t:=by
 unfold House.side;rw[p7];cases h.doors[t/2]? with
 |none=>rfl
 |some d=>
  show some (if t%2=0 then _ else _)=some (if t%2=0 then _ else _);by_cases e:s/2=t/2<;>by_cases e2:s%2=0<;>by_cases e3:t%2=0<;>simp[e,e2,e3]<;>omega
theorem JC (h:House){s:Nat}(hs:s<2*h.doors.length):(h.without s).side s=some .shut:=by
 obtain⟨d,e,_⟩:=xV hs;unfold House.side;rw[p7,e];show some (if s%2=0 then _ else _)=_;by_cases e2:s%2=0<;>simp[e2]
theorem Lg (h:House){s t:Nat}(n:t≠s):(h.without s).opens t=h.opens t:=by
 unfold House.opens;rw[Bb h n];rfl
theorem qF (h:House) (b:Bunch){s t:Nat}(hs:s<2*h.doors.length):(h.without s).passes b t=(t !=s&&h.passes b t):=by
 by_cases n:t=s
 ·subst n
  unfold House.passes;rw[JC h hs];simp
 ·unfold House.passes
  rw[Bb h n,Lg h n];simp[n]
theorem Bc {h:House}(hd:cQ h) (s:Nat):cQ (h.without s):=by
 intro d m;obtain⟨i,hi⟩:=List.mem_iff_getElem?.mp m;rw[p7]at hi;cases e:h.doors[i]? with
 |none=>rw[e]at hi;cases hi
 |some d0=>
  rw[e]at hi;have q:(if s/2=i then(if s%2=0 then{d0 with sa:=Side.shut}else{d0 with sb:=Side.shut})else d0)=d:=Option.some.inj hi;have k:=hd d0 (List.mem_of_getElem? e);rw[xW,←q];by_cases e1:s/2=i<;>by_cases e2:s%2=0<;>simp[e1,e2,k]
theorem afF {l:List Nat}{R:Nat}(hl:∀x∈l,x<R):KhRooms.kinds l=((List.range R).filter fun x=>l.contains x).length:=by
 unfold KhRooms.kinds;have e:(l.foldl (fun(r:List Nat) (x:Nat)=>insertNum x r) [])=(List.range R).filter fun x=>l.contains x:=by
  refine oh (wJ (f:=fun x=>x) l [] .nil) (dB _ (eE R)) fun x=>?_
  rw[wI (f:=fun x=>x),List.mem_filter,List.mem_range,List.contains_iff_mem];constructor
  ·rintro(h|⟨a,m,e⟩)
   ·cases h
   ·subst e
    exact⟨hl a m,m⟩
  ·rintro⟨_,m⟩
   exact .inr ⟨x,m,rfl⟩
 rw[e]
def Walk (h:House) (b:Bunch):Nat→List Nat→Nat→Prop
 |r,[],t=>r=t
 |r,s::l,t=>s<2*h.doors.length∧h.passes b s=true∧h.before s=r∧Walk h b (h.behind s) l t
theorem rK {h:House}{b:Bunch}{t:Nat}:∀{l:List Nat}{r:Nat},Walk h b r l t→Reach (Eu h b) r t
 |[],r,w=>by
  have e:r=t:=w;subst e;exact .base
 |s::l,r,w=>by
  obtain⟨h1,h2,h3,h4⟩:=w;exact .head ⟨s,h1,h2,h3,rfl⟩ (rK h4)
theorem Walk.snoc {h:House}{b:Bunch}{s:Nat}(h1:s<2*h.doors.length) (h2:h.passes b s=true):∀{l:List Nat}{r:Nat},Walk h b r l (h.before s)→Walk h b r (l++[s]) (h.behind s)
 |[],r,w=>⟨h1,h2,(show r=h.before s from w).symm,rfl⟩
 |a::l,r,w=>by
  obtain⟨k1,k2,k3,k4⟩:=w;exact⟨k1,k2,k3,Walk.snoc h1 h2 k4⟩
theorem Walk.app {h:House}{b:Bunch}{m t:Nat}{l2:List Nat}(w2:Walk h b m l2 t):∀{l:List Nat}{r:Nat},Walk h b r l m→Walk h b r (l++l2) t
 |[],r,w=>by
  have e:r=m:=w;subst e;exact w2
 |a::l,r,w=>by
  obtain⟨k1,k2,k3,k4⟩:=w;exact⟨k1,k2,k3,Walk.app w2 k4⟩
theorem Walk.split {h:House}{b:Bunch}{t:Nat}:∀{l1 l2:List Nat}{r:Nat},Walk h b r (l1++l2) t→∃m,Walk h b r l1 m∧Walk h b m l2 t
 |[],l2,r,w=>⟨r,rfl,w⟩
 |a::l1,l2,r,w=>by
  obtain⟨k1,k2,k3,k4⟩:=w;obtain⟨m,q1,q2⟩:=Walk.split (l1:=l1) k4;exact⟨m,⟨k1,k2,k3,q1⟩,q2⟩
theorem abT {h:House}{b:Bunch}{r t:Nat}(c:Reach (Eu h b) r t):∃l,Walk h b r l t:=by
 induction c with
 |base=>exact⟨[],rfl⟩
 |step _ e ih=>
  obtain⟨l,w⟩:=ih;obtain⟨s,h1,h2,h3,h4⟩:=e;subst h3 h4;exact⟨l++[s],w.snoc h1 h2⟩
theorem ZF {h:House}(hd:cQ h){b:Bunch}{r t:Nat}{l:List Nat}(hr:r<h.rooms) (w:Walk h b r l t):t<h.rooms:=HB hd hr (rK w)
theorem sG {h:House}{b:Bunch}{t:Nat}:∀{l:List Nat}{r:Nat},Walk h b r l t→∀s∈l,s<2*h.doors.length
 |[],_,_,s,m=>by cases m
 |a::l,r,w,s,m=>by
  obtain⟨k1,k2,k3,k4⟩:=w;rcases List.mem_cons.mp m with e|m
  ·rw[e];exact k1
  ·exact sG k4 s m
theorem j6 {h:House}{b:Bunch}{t n x:Nat}:x∈h.near b t (n+1)↔x∈h.near b t n∨∃s,s<2*h.doors.length∧h.passes b s=true∧h.before s=x∧h.behind s∈h.near b t n:=by
 show x∈(h.sides.filter fun(s:Nat)=>(h.near b t n).contains (h.behind s)&&h.passes b s).foldl (fun(r:List Nat) (s:Nat)=>insertNum (h.before s) r) (h.near b t n)↔_;rw[wI (f:=h.before)];constructor
 ·rintro(m|⟨s,m,e⟩)
  ·exact .inl m
  ·have m':=List.mem_filter.mp m
   have q:=Bool.and_eq_true_iff.mp m'.2;exact .inr ⟨s,lR.mp m'.1,q.2,e,List.contains_iff_mem.mp q.1⟩
 ·rintro(m|⟨s,h1,h2,h3,h4⟩)
  ·exact .inl m
  ·exact .inr ⟨s,List.mem_filter.mpr ⟨lR.mpr h1,Bool.and_eq_true_iff.mpr ⟨List.contains_iff_mem.mpr h4,h2⟩⟩,h3⟩
theorem Bd {h:House}{b:Bunch}{t:Nat}:∀n,jX (h.near b t n)
 |0=>by simp[House.near]
 |n+1=>wJ (f:=h.before) _ _ (Bd n)
theorem jc {h:House}{b:Bunch}{t:Nat}:∀{n x:Nat},x∈h.near b t n↔∃l,l.length≤n∧Walk h b x l t
 |0,x=>by
  constructor
  ·intro m
   exact⟨[],Nat.le_refl _,List.mem_singleton.mp m⟩
  ·rintro⟨l,hl,w⟩
   match l,hl,w with
   |[],_,w=>exact List.mem_singleton.mpr w
 |n+1,x=>by
  rw[j6];constructor
  ·rintro(m|⟨s,h1,h2,h3,h4⟩)
   ·obtain⟨l,hl,w⟩:=jc.mp m
    exact⟨l,by omega,w⟩
   ·obtain⟨l,hl,w⟩:=jc.mp h4
    exact⟨s::l,by rw[List.length_cons];omega,h1,h2,h3,w⟩
  ·rintro⟨l,hl,w⟩
   match l,hl,w with
   |[],_,w=>exact .inl (jc.mpr ⟨[],Nat.zero_le _,w⟩)
   |s::l,hl,w=>
    obtain⟨k1,k2,k3,k4⟩:=w;rw[List.length_cons]at hl;exact .inr ⟨s,k1,k2,k3,jc.mpr ⟨l,by omega,k4⟩⟩
theorem Qo {h:House}{b:Bunch}{t:Nat}:∀n,n<(h.near b t n).length∨∀x,x∈h.near b t (n+1)→x∈h.near b t n
 |0=> .inl (Nat.zero_lt_one)
 |n+1=>by
  by_cases c:∀x,x∈h.near b t (n+1)→x∈h.near b t n
  ·refine .inr fun x m=>?_
   rcases j6.mp m with m|⟨s,h1,h2,h3,h4⟩
   ·exact m
   ·exact j6.mpr (.inr ⟨s,h1,h2,h3,c _ h4⟩)
  ·rcases Qo (h:=h) (b:=b) (t:=t) n with g|g
   ·refine .inl ?_
    have hl:=(iu (Bd (h:=h) (b:=b) (t:=t) n)).length_le_of_subset (l₂:=h.near b t (n+1)) (fun x m=>j6.mpr (.inl m));have:(h.near b t n).length≠(h.near b t (n+1)).length:=fun e=>c fun x m=>by
     rw[FZ (Bd n) (Bd (n+1)) (fun x m=>j6.mpr (.inl m)) (by omega)];exact m
    omega
   ·exact absurd g c
theorem Lh {h:House}{b:Bunch}{t n:Nat}(c:∀x,x∈h.near b t (n+1)→x∈h.near b t n):∀(l:List Nat) (x:Nat),Walk h b x l t→x∈h.near b t n
 |[],x,w=>jc.mpr ⟨[],Nat.zero_le _,w⟩
 |s::l,x,w=>by
  obtain⟨k1,k2,k3,k4⟩:=w;exact c x (j6.mpr (.inr ⟨s,k1,k2,k3,Lh c l _ k4⟩))
theorem Qp {h:House}(hd:cQ h){b:Bunch}{r t:Nat}{l:List Nat}(hr:r<h.rooms) (w:Walk h b r l t):∃l',l'.length<h.rooms∧Walk h b r l' t:=by
 have ht:=ZF hd hr w;obtain⟨n,hn⟩:∃n,h.rooms=n+1:=⟨h.rooms-1,by omega⟩
 have m:r∈h.near b t n:=by
  rcases Qo (h:=h) (b:=b) (t:=t) n with g|g
  ·have lt:∀x∈h.near b t n,x<h.rooms:=by
    intro x m;obtain⟨l',_,w'⟩:=jc.mp m;match l',w' with
    |[],w'=>rw[show x=t from w'];exact ht
    |s::l',w'=>
     obtain⟨k1,k2,k3,k4⟩:=w';rw[←k3];exact TQ hd k1
   have e:=FZ (Bd n) (eE h.rooms) (fun x m=>List.mem_range.mpr (lt x m)) (by rw[List.length_range];omega);rw[e];exact List.mem_range.mpr hr
  ·exact Lh g l r w
 obtain⟨l',hl,w'⟩:=jc.mp m;exact⟨l',by omega,w'⟩
def lexLe:List Nat→List Nat→Prop
 |[],_=>True
 |_::_,[]=>False
 |x::a,y::b=>x<y∨(x=y∧lexLe a b)
theorem Qq:∀a,lexLe a a
 |[]=>trivial
 |_::a=> .inr ⟨rfl,Qq a⟩
theorem Ey:∀{a b},lexLe a b→lexLe b a→a=b
 |[],[],_,_=>rfl
 |[],_::_,_,h=>h.elim
 |_::_,[],h,_=>h.elim
 |x::a,y::b,h,k=>by
  rcases h with h|⟨e,h⟩
  ·rcases k with k|⟨e',_⟩
   ·omega
   ·omega
  ·subst e
   rcases k with k|⟨_,k⟩
   ·omega
   ·rw[Ey h k]
theorem Li:∀{a b c},lexLe a b→lexLe b c→lexLe a c
 |[],_,_,_,_=>trivial
 |_::_,[],_,h,_=>h.elim
 |_::_,_::_,[],_,h=>h.elim
 |x::a,y::b,z::c,h,k=>by
  rcases h with h|⟨e,h⟩
  ·rcases k with k|⟨e',_⟩
   ·exact .inl (by omega)
   ·exact .inl (by omega)
  ·subst e
   rcases k with k|⟨e',k⟩
   ·exact .inl k
   ·exact .inr ⟨e',Li h k⟩
def Before (a b:List Nat):Prop:=a.length<b.length∨(a.length=b.length∧lexLe a b)
theorem Bf {a b:List Nat}(h:Before a b) (k:Before b a):a=b:=by
 rcases h with h|⟨e,h⟩
 ·rcases k with k|⟨e',_⟩<;>omega
 ·rcases k with k|⟨e',k⟩
  ·omega
  ·exact Ey h k
structure First (h:House) (b:Bunch) (r t:Nat) (l:List Nat):Prop where
 walk:Walk h b r l t
 first:∀l',Walk h b r l' t→Before l l'
theorem First.unique {h:House}{b:Bunch}{r t:Nat}{l l':List Nat}(f:First h b r t l) (f':First h b r t l'):l=l':=Bf (f.first _ f'.walk) (f'.first _ f.walk)
theorem vq {n:Nat}{p:Nat→Bool}{s:Nat}(e:(List.range n).find? p=some s):s<n∧p s=true∧∀u,u<s→p u=false:=by
 have:=List.find?_range_eq_some.mp e;refine⟨List.mem_range.mp this.2.1,this.1,fun u hu=>?_⟩;have:=this.2.2 u hu;simpa using this
theorem Lj {h:House}{b:Bunch}{t:Nat}:∀(n r:Nat),(∃l,l.length≤n∧Walk h b r l t)→(∀l,Walk h b r l t→n≤l.length)→
  Walk h b r (h.walkIn b t n r) t∧(h.walkIn b t n r).length=n∧∀l,Walk h b r l t→l.length=n→lexLe (h.walkIn b t n r) l
 |0,r,⟨l,hl,w⟩,_=>by
  match l,hl,w with
  |[],_,w=>exact⟨w,rfl,fun _ _ _=>trivial⟩
 |n+1,r,⟨l,hl,w⟩,hn=>by
  have h1:=hn l w;match l,h1,hl,w with
  |s0::l0,h1,hl,w=>
   obtain⟨k1,k2,k3,k4⟩:=w;rw[List.length_cons]at h1 hl;unfold House.walkIn;cases e:h.sides.find? fun(s:Nat)=>h.before s==r&&(h.passes b s&&(h.near b t n).contains (h.behind s))with
   |none=>
    have:=List.find?_eq_none.mp e s0 (lR.mpr k1);refine absurd ?_ this;rw[Bool.and_eq_true,Bool.and_eq_true];exact⟨by rw[k3];exact beq_self_eq_true r,k2,List.contains_iff_mem.mpr (jc.mpr ⟨l0,by omega,k4⟩)⟩
   |some s=>
    obtain⟨q1,q2,q3⟩:=vq e;rw[Bool.and_eq_true,Bool.and_eq_true]at q2;obtain⟨p1,p2,p3⟩:=q2;have p1:=eq_of_beq p1;have ex:=jc.mp (List.contains_iff_mem.mp p3);have lo:∀l,Walk h b (h.behind s) l t→n≤l.length:=fun l' w'=>by
     have:=hn (s::l') ⟨q1,p2,p1,w'⟩;rw[List.length_cons]at this;omega
    have ih:=Lj n (h.behind s) ex lo;refine⟨⟨q1,p2,p1,ih.1⟩,by show(_::_).length=_;rw[List.length_cons,ih.2.1],fun l' w' e'=>?_⟩;match l',w',e' with
    |s'::l',w',e'=>
     obtain⟨v1,v2,v3,v4⟩:=w';rw[List.length_cons]at e';rcases Nat.lt_trichotomy s' s with g|g|g
     ·have:=q3 s' g
      have t':(h.before s'==r&&(h.passes b s'&&(h.near b t n).contains (h.behind s')))=true:=by
       rw[Bool.and_eq_true,Bool.and_eq_true];exact⟨by rw[v3];exact beq_self_eq_true r,v2,List.contains_iff_mem.mpr (jc.mpr ⟨l',by omega,v4⟩)⟩
      rw[t']at this;cases this
     ·subst g
      exact .inr ⟨rfl,ih.2.2 l' v4 (by omega)⟩
     ·exact .inl g
theorem Yz {h:House}{b:Bunch}{r t:Nat}{l:List Nat}(e:h.way b r t=some l):First h b r t l:=by
 unfold House.way at e;cases q:(List.range h.rooms).find? fun(n:Nat)=>(h.near b t n).contains r with
 |none=>rw[q]at e;cases e
 |some n=>
  rw[q]at e;have e':h.walkIn b t n r=l:=Option.some.inj e;obtain⟨q1,q2,q3⟩:=vq q;have ex:=jc.mp (List.contains_iff_mem.mp q2);have lo:∀l,Walk h b r l t→n≤l.length:=fun l' w'=>by
   apply Classical.byContradiction;intro c;have:=q3 l'.length (by omega);have t':=List.contains_iff_mem.mpr (jc.mpr ⟨l',Nat.le_refl _,w'⟩);rw[t']at this;cases this
  have key:=Lj n r ex lo;rw[e']at key;refine⟨key.1,fun l' w'=>?_⟩;have:=lo l' w';by_cases g:l'.length=n
  ·exact .inr ⟨by rw[key.2.1,g],key.2.2 l' w' g⟩
  ·exact .inl (by rw[key.2.1];omega)
theorem afG {h:House}(hd:cQ h){b:Bunch}{r t:Nat}(hr:r<h.rooms) (e:h.way b r t=none):¬Reach (Eu h b) r t:=by
 intro c;obtain⟨l,w⟩:=abT c;obtain⟨l',hl,w'⟩:=Qp hd hr w;unfold House.way at e;cases q:(List.range h.rooms).find? fun(n:Nat)=>(h.near b t n).contains r with
 |none=>
  have:=List.find?_eq_none.mp q l'.length (List.mem_range.mpr hl);exact this (List.contains_iff_mem.mpr (jc.mpr ⟨l',Nat.le_refl _,w'⟩))
 |some n=>rw[q]at e;cases e
theorem aiC {h:House}(hd:cQ h){b:Bunch}{r t:Nat}(hr:r<h.rooms){l:List Nat}(f:First h b r t l):h.way b r t=some l:=by
 cases e:h.way b r t with
 |none=>exact absurd (rK f.walk) (afG hd hr e)
 |some l'=>rw[(Yz e).unique f]
theorem ZG {h:House}{b:Bunch}{r t:Nat}(c:¬Reach (Eu h b) r t):h.way b r t=none:=by
 cases e:h.way b r t with
 |none=>rfl
 |some l'=>exact absurd (rK (Yz e).walk) c
theorem mem_some {c:List Nat}:∀{n:Nat}{l:List Nat},c∈some_ n l↔c.Sublist l∧c.length=n
 |0,l=>by
  rw[show some_ 0 l=[[]] by cases l<;>rfl,List.mem_singleton];constructor
  ·rintro rfl
   exact⟨List.nil_sublist _,rfl⟩
  ·rintro⟨_,e⟩
   exact List.length_eq_zero_iff.mp e
 |n+1,[]=>by
  show c∈[]↔_;constructor
  ·intro m;cases m
  ·rintro⟨s,e⟩
   rw[List.sublist_nil.mp s]at e;cases e
 |n+1,k::r=>by
  show c∈((some_ n r).map fun(b:Bunch)=>k::b)++some_ (n+1) r↔_;rw[List.mem_append,List.mem_map,mem_some];constructor
  ·rintro(⟨b,m,e⟩|⟨s,e⟩)
   ·subst e
    have:=mem_some.mp m;exact⟨this.1.cons_cons k,by rw[List.length_cons,this.2]⟩
   ·exact⟨s.cons k,e⟩
  ·rintro⟨s,e⟩
   cases s with
   |cons _ s=>exact .inr ⟨s,e⟩
   |cons_cons _ s=>
    rw[List.length_cons]at e;exact .inl ⟨_,mem_some.mpr ⟨s,by omega⟩,rfl⟩
theorem Cu:∀{n:Nat}{l:List Nat},jX l→(some_ n l).Pairwise lexLe
 |0,l,_=>by
  rw[show some_ 0 l=[[]] by cases l<;>rfl];simp
 |_+1,[],_=> .nil
 |n+1,k::r,h=>by
  have h':=List.pairwise_cons.mp h;show(((some_ n r).map fun(b:Bunch)=>k::b)++some_ (n+1) r).Pairwise lexLe;rw[List.pairwise_append];refine⟨?_,Cu h'.2,fun a ma b mb=>?_⟩
  ·rw[List.pairwise_map]
   exact(Cu h'.2).imp fun q=> .inr ⟨rfl,q⟩
  ·obtain⟨a',_,e⟩:=List.mem_map.mp ma
   subst e;obtain⟨sb,lb⟩:=mem_some.mp mb;match b,sb,lb with
   |y::b,sb,lb=>exact .inl (h'.1 y (sb.subset (List.mem_cons_self ..)))
def bunches (l:Bunch):List Bunch:=(List.range (l.length+1)).flatMap fun(n:Nat)=>some_ n l
theorem Cv {c l:Bunch}:c∈bunches l↔c.Sublist l:=by
 unfold bunches;rw[List.mem_flatMap];constructor
 ·rintro⟨n,_,m⟩
  exact(mem_some.mp m).1
 ·intro s
  exact⟨c.length,List.mem_range.mpr (Nat.lt_succ_of_le s.length_le),mem_some.mpr ⟨s,rfl⟩⟩
theorem QS {l:Bunch}(h:jX l):(bunches l).Pairwise Before:=by
 unfold bunches;rw[List.pairwise_flatMap];refine⟨fun n _=>?_,?_⟩
 ·have:=Cu (n:=n) h
  refine(List.pairwise_iff_forall_sublist.mpr fun{a b} s=>?_);have ma:=mem_some.mp (s.subset (List.mem_cons_self ..));have mb:=mem_some.mp (s.subset (List.mem_cons_of_mem _ (List.mem_cons_self ..)));exact .inr ⟨by rw[ma.2,mb.2],List.pairwise_iff_forall_sublist.mp this s⟩
 ·refine(eE _).imp fun{i j} hij a ma b mb=>?_
  exact .inl (by rw[(mem_some.mp ma).2,(mem_some.mp mb).2];exact hij)
theorem o9 (a:List Nat):Before a a:= .inr ⟨rfl,Qq a⟩
theorem Ge {α:Type}{R:α→α→Prop}(rf:∀a,R a a){p:α→Bool}{c:α}:∀{l:List α},l.Pairwise R→l.find? p=some c→p c=true∧c∈l∧∀d∈l,p d=true→R c d
 |[],_,e=>by cases e
 |x::l,h,e=>by
  have h':=List.pairwise_cons.mp h;rw[List.find?_cons]at e;cases q:p x with
  |true=>
   rw[q]at e;have e':x=c:=Option.some.inj e;subst e';refine⟨q,List.mem_cons_self ..,fun d m _=>?_⟩;rcases List.mem_cons.mp m with e|m
   ·rw[e];exact rf x
   ·exact h'.1 d m
  |false=>
   rw[q]at e;have ih:=Ge rf h'.2 e;refine⟨ih.1,List.mem_cons_of_mem _ ih.2.1,fun d m hd=>?_⟩;rcases List.mem_cons.mp m with e|m
   ·rw[e,q]at hd;cases hd
   ·exact ih.2.2 d m hd
structure N5 (p:Bunch→Bool) (have_ c:Bunch):Prop where
 sub:c.Sublist have_
 ok:p c=true
 first:∀d:Bunch,d.Sublist have_→p d=true→Before c d
theorem N5.unique {p:Bunch→Bool}{l c d:Bunch}(a:N5 p l c) (b:N5 p l d):c=d:=Bf (a.first _ b.sub b.ok) (b.first _ a.sub a.ok)
theorem Qs {p:Bunch→Bool}{l c:Bunch}(h:jX l) (e:(bunches l).find? p=some c):N5 p l c:=by
 have:=Ge o9 (QS h) e;exact⟨Cv.mp this.2.1,this.1,fun d s hd=>this.2.2 d (Cv.mpr s) hd⟩
theorem ZJ {h:House}{b c:Bunch}(s:∀k,k∈b→k∈c){i:Nat}(e:h.passes b i=true):h.passes c i=true:=by
 unfold House.passes at e⊢;cases q:h.side i with
 |none=>rw[q]at e;exact e
 |some x=>
  rw[q]at e;cases x with
  |free=>rfl
  |shut=>exact e
  |locked y=>
   have e':(h.opens i).any b.contains=true:=e;show(h.opens i).any c.contains=true;obtain⟨k,m,hk⟩:=List.any_eq_true.mp e';exact List.any_eq_true.mpr ⟨k,m,List.contains_iff_mem.mpr (s k (List.contains_iff_mem.mp hk))⟩
theorem TV {h:House}{b c:Bunch}(s:∀k,k∈b→k∈c) (x y:Nat) (e:Eu h b x y):Eu h c x y:=by
 obtain⟨i,h1,h2,h3,h4⟩:=e;exact⟨i,h1,ZJ s h2,h3,h4⟩
theorem ZK {h:House}(hd:cQ h){b c:Bunch}(s:∀k,k∈b→k∈c){r t:Nat}{back:Bool}(hr:r<h.rooms) (ht:t<h.rooms) (e:h.serves r t back b=true):h.serves r t back c=true:=by
 unfold House.serves at e⊢;rw[Bool.and_eq_true]at e⊢;refine⟨(iw hd hr).mpr (((iw hd hr).mp e.1).mono (TV s)),?_⟩;have e2:=e.2;cases back with
 |false=>rfl
 |true=>
  rw[Bool.not_true,Bool.false_or]at e2⊢;exact(iw hd ht).mpr (((iw hd ht).mp e2).mono (TV s))
theorem afH {h:House}(hd:cQ h){l c:Bunch}{r t:Nat}{back:Bool}(hr:r<h.rooms) (ht:t<h.rooms) (hl:jX l) (f:N5 (h.serves r t back) l c):h.small l r t back=some c:=by
 unfold House.small;have e:=ZK hd (fun k m=>f.sub.subset m) hr ht f.ok;rw[if_neg (by rw[e];simp)];show(bunches l).find? (h.serves r t back)=some c;cases q:(bunches l).find? (h.serves r t back)with
 |none=>exact absurd f.ok (List.find?_eq_none.mp q c (Cv.mpr f.sub))
 |some d=>rw[(Qs hl q).unique f]
theorem abU {h:House}{l:Bunch}{r t:Nat}{back:Bool}(e:h.serves r t back l=false):h.small l r t back=none:=by
 unfold House.small;rw[if_pos e]
end Kd
end
section
namespace Kd
open Kh
abbrev Stand:=Nat×Bunch
theorem abV {l:Stands}{r:Nat}{b:Bunch}:l.has r b=true↔(r,b)∈l:=by
 unfold Stands.has;rw[List.any_eq_true];constructor
 ·rintro⟨⟨x,c⟩,m,e⟩
  rw[Bool.and_eq_true]at e;have e1:=eq_of_beq e.1;have e2:=eq_of_beq e.2;have e1:x=r:=e1;have e2:c=b:=e2;subst e1 e2;exact m
 ·intro m
  exact⟨_,m,by simp⟩
theorem ag8 {l:Stands}{x y:Stand}:y∈l.put x↔y=x∨y∈l:=by
 unfold Stands.put
 split
 ·rename_i e
  have:=abV.mp e;constructor
  ·exact .inr
  ·rintro(rfl|m)
   ·exact this
   ·exact m
 ·rw[List.mem_append,List.mem_singleton]
  exact Or.comm
theorem adU {l:Stands}{x:Stand}(h:l.Nodup):(l.put x).Nodup:=by
 unfold Stands.put
 split
 ·exact h
 ·rename_i e
  rw[List.nodup_append];refine⟨h,by simp,fun a ma b mb=>?_⟩;rw[List.mem_singleton]at mb;rintro rfl;subst mb;exact e (abV.mpr ma)
theorem abW (l:Stands) (x:Stand):∃m,l.put x=l++m:=by
 unfold Stands.put
 split
 ·exact⟨[],by simp⟩
 ·exact⟨[x],rfl⟩
def uq (h:House) (x y:Stand):Prop:=∃s,s<2*h.doors.length∧h.before s=x.1∧h.passes x.2 s=true∧y=(h.behind s,h.all (h.behind s) x.2)
def TX (h:House) (x:Stand) (r:Stands):Stands:=(h.sides.filter fun(s:Nat)=>h.before s==x.1&&h.passes x.2 s).foldl (fun(q:Stands) (s:Nat)=>q.put (h.behind s,h.all (h.behind s) x.2)) r
theorem Lk {α:Type}{f:α→Stand}{y:Stand}:∀(as:List α) (l:Stands),y∈as.foldl (fun q a=>q.put (f a)) l↔y∈l∨∃a∈as,f a=y
 |[],l=>by simp
 |a::as,l=>by
  rw[List.foldl_cons,Lk as,ag8];constructor
  ·rintro((h|h)|⟨b,m,e⟩)
   ·exact .inr ⟨a,List.mem_cons_self ..,h.symm⟩
   ·exact .inl h
   ·exact .inr ⟨b,List.mem_cons_of_mem _ m,e⟩
  ·rintro(h|⟨b,m,e⟩)
   ·exact .inl (.inr h)
   ·rcases List.mem_cons.mp m with e'|m
    ·subst e'
     exact .inl (.inl e.symm)
    ·exact .inr ⟨b,m,e⟩
theorem IW {α:Type}{f:α→Stand}:∀(as:List α) (l:Stands),(l.Nodup→(as.foldl (fun q a=>q.put (f a)) l).Nodup)∧∃m,as.foldl (fun q a=>q.put (f a)) l=l++m
 |[],l=>⟨id,[],by simp⟩
 |a::as,l=>by
  rw[List.foldl_cons];obtain⟨k1,m,k2⟩:=IW (f:=f) as (l.put (f a));obtain⟨m',e⟩:=abW l (f a);refine⟨fun h=>k1 (adU h),m'++m,?_⟩;rw[k2,e,List.append_assoc]
theorem adV {h:House}{x y:Stand}{r:Stands}:y∈TX h x r↔y∈r∨uq h x y:=by
 unfold TX;rw[Lk (f:=fun s=>(h.behind s,h.all (h.behind s) x.2))];constructor
 ·rintro(m|⟨s,m,e⟩)
  ·exact .inl m
  ·have m':=List.mem_filter.mp m
   have q:=Bool.and_eq_true_iff.mp m'.2;exact .inr ⟨s,lR.mp m'.1,eq_of_beq q.1,q.2,e.symm⟩
 ·rintro(m|⟨s,h1,h2,h3,h4⟩)
  ·exact .inl m
  ·exact .inr ⟨s,List.mem_filter.mpr ⟨lR.mpr h1,Bool.and_eq_true_iff.mpr ⟨by rw[h2];exact beq_self_eq_true _,h3⟩⟩,h4.symm⟩
theorem TY {h:House}:∀(from_ l:Stands),(l.Nodup→(h.goOn from_ l).Nodup)∧(∃m,h.goOn from_ l=l++m)∧∀y,y∈h.goOn from_ l↔y∈l∨∃x∈from_,uq h x y
 |[],l=>by
  show(l.Nodup→l.Nodup)∧(∃m,l=l++m)∧∀y,y∈l↔y∈l∨∃x∈[],uq h x y
  exact⟨id,⟨[],by simp⟩,fun y=>by simp⟩
 |x::r,l=>by
  have e:h.goOn (x::r) l=h.goOn r (TX h x l):=rfl;obtain⟨k1,⟨m,k2⟩,k3⟩:=TY (h:=h) r (TX h x l);obtain⟨q1,m',q2⟩:=IW (f:=fun s=>(h.behind s,h.all (h.behind s) x.2)) (h.sides.filter fun(s:Nat)=>h.before s==x.1&&h.passes x.2 s) l;have q2:TX h x l=l++m':=q2;refine⟨fun nd=>k1 (q1 nd),⟨m'++m,by rw[e,k2,q2,List.append_assoc]⟩,fun y=>?_⟩;rw[e,k3,adV];constructor
  ·rintro((a|a)|⟨z,m,a⟩)
   ·exact .inl a
   ·exact .inr ⟨x,List.mem_cons_self ..,a⟩
   ·exact .inr ⟨z,List.mem_cons_of_mem _ m,a⟩
  ·rintro(a|⟨z,m,a⟩)
   ·exact .inl (.inl a)
   ·rcases List.mem_cons.mp m with e|m
    ·subst e
     exact .inl (.inr a)
    ·exact .inr ⟨z,m,a⟩
theorem T4 {h:House}:∀(n:Nat) (l:Stands),h.goFar n [] l=l
 |0,_=>rfl
 |_+1,_=>rfl
theorem Qt {h:House}{x0:Stand}{N:Nat}(bd:∀l:Stands,l.Nodup→(∀y∈l,Reach (uq h) x0 y)→l.length≤N):∀(n:Nat) (new_ l:Stands),l.Nodup→(∀y∈l,Reach (uq h) x0 y)→x0∈l→
  (∀y∈new_,y∈l)→(∀x∈l,x∈new_∨∀y,uq h x y→y∈l)→N<l.length+n→∀y,y∈h.goFar n new_ l↔Reach (uq h) x0 y
 |0,new_,l,nd,hr,h0,hs,hc,hf=>by
  have:=bd l nd hr;omega
 |n+1,new_,l,nd,hr,h0,hs,hc,hf=>by
  intro y;match new_ with
  |[]=>
   rw[T4];refine⟨hr y,fun c=>?_⟩;refine Reach.closed (P:=fun z=>z∈l) c h0 fun x z mx e=>?_
   rcases hc x mx with m|m
   ·cases m
   ·exact m z e
  |a::r=>
   have e:h.goFar (n+1) (a::r) l=h.goFar n ((h.goOn (a::r) l).drop l.length) (h.goOn (a::r) l):=rfl;rw[e];obtain⟨k1,⟨m,k2⟩,k3⟩:=TY (h:=h) (a::r) l;have ed:(h.goOn (a::r) l).drop l.length=m:=by rw[k2];simp
   have nr:∀y∈h.goOn (a::r) l,Reach (uq h) x0 y:=fun y my=>by
    rcases(k3 y).mp my with my|⟨x,mx,sx⟩
    ·exact hr y my
    ·exact(hr x (hs x mx)).step sx
   have cl:∀x∈h.goOn (a::r) l,x∈m∨∀y,uq h x y→y∈h.goOn (a::r) l:=fun x mx=>by
    rw[k2]at mx;rcases List.mem_append.mp mx with ml|mm
    ·refine .inr fun y sy=>?_
     rcases hc x ml with q|q
     ·exact(k3 y).mpr (.inr ⟨x,q,sy⟩)
     ·exact(k3 y).mpr (.inl (q y sy))
    ·exact .inl mm
   rw[ed];match m,k2,cl with
   |[],k2,cl=>
    rw[T4];refine⟨nr y,fun c=>?_⟩;refine Reach.closed (P:=fun z=>z∈h.goOn (a::r) l) c ((k3 x0).mpr (.inl h0)) fun x z mx e=>?_
    rcases cl x mx with q|q
    ·cases q
    ·exact q z e
   |b::m,k2,cl=>
    refine Qt bd n (b::m) (h.goOn (a::r) l) (k1 nd) nr ((k3 x0).mpr (.inl h0)) (fun z mz=>by rw[k2];exact List.mem_append_right _ mz) cl ?_ y;rw[k2,List.length_append,List.length_cons];omega
def subs:List Nat→List (List Nat)
 |[]=>[[]]
 |x::l=>subs l++(subs l).map (x::·)
theorem Ln:∀l,(subs l).length=2^l.length
 |[]=>rfl
 |x::l=>by
  show(subs l++(subs l).map (x::·)).length=_;rw[List.length_append,List.length_map,Ln,List.length_cons,Nat.pow_succ];omega
theorem ux (p:Nat→Bool):∀l,l.filter p∈subs l
 |[]=>List.mem_singleton.mpr rfl
 |x::l=>by
  show(x::l).filter p∈subs l++(subs l).map (x::·);rw[List.filter_cons]
  split
  ·exact List.mem_append_right _ (List.mem_map.mpr ⟨_,ux p l,rfl⟩)
  ·exact List.mem_append_left _ (ux p l)
def p8:List (Option Nat)→Nat→List Nat
 |[],_=>[]
 |none::r,i=>p8 r (i+1)
 |some _::r,i=>i::p8 r (i+1)
theorem vR:∀(l:List (Option Nat)) (i:Nat),(p8 l i).length=(l.filter Option.isSome).length
 |[],_=>rfl
 |none::r,i=>vR r (i+1)
 |some x::r,i=>by
  show(i::p8 r (i+1)).length=(some x::r.filter Option.isSome).length;rw[List.length_cons,List.length_cons,vR r (i+1)]
theorem Lp {k:Nat}:∀{l:List (Option Nat)}{i x:Nat},l[k]?=some (some x)→i+k∈p8 l i
 |[],_,_,e=>by simp at e
 |o::r,i,x,e=>by
  match k,e with
  |0,e=>
   have e':o=some x:=Option.some.inj e;subst e';exact List.mem_cons_self ..
  |k+1,e=>
   have ih:=Lp (k:=k) (l:=r) (i:=i+1) (x:=x) (by simpa using e);have e2:i+(k+1)=i+1+k:=by omega
   rw[e2];cases o with
   |none=>exact ih
   |some _=>exact List.mem_cons_of_mem _ ih
def univ (h:House) (b:Bunch):Stands:=(List.range h.rooms).flatMap fun r=>(subs (p8 h.hooks 0)).map fun S=>(r,(List.range h.keys.length).filter fun k=>b.contains k||S.contains k)
theorem ur {α β:Type}{f:α→List β}{n:Nat}:∀(l:List α),(∀a∈l,(f a).length=n)→(l.flatMap f).length=l.length*n
 |[],_=>by simp
 |a::l,h=>by
  rw[List.flatMap_cons,List.length_append,h a (List.mem_cons_self ..),ur l fun b m=>h b (List.mem_cons_of_mem _ m),List.length_cons,Nat.succ_mul];omega
theorem ZL (h:House) (b:Bunch):(univ h b).length=h.rooms*2^hangs h:=by
 unfold univ;rw[ur (n:=2^hangs h),List.length_range];intro a _;rw[List.length_map,Ln,vR];rfl
theorem Lq {r:Nat}{o:Option (Option Nat)}:hangsIn r o=true↔o=some (some r):=by
 match o with
 |none=>simp[hangsIn]
 |some none=>simp[hangsIn]
 |some (some x)=>simp[hangsIn]
theorem YB {h:House}{b:Bunch}{r:Nat}(p:Nat→Bool) (B:Bunch) (eB:B=(List.range h.keys.length).filter fun k=>b.contains k||((p8 h.hooks 0).filter p).contains k):
  ∃q:Nat→Bool,h.all r B=(List.range h.keys.length).filter fun k=>b.contains k||((p8 h.hooks 0).filter q).contains k:=by
 refine⟨fun k=>p k||hangsIn r h.hooks[k]?,?_⟩;unfold House.all;refine List.filter_congr fun k mk=>?_
 rw[Bool.eq_iff_iff,Bool.or_eq_true,Bool.or_eq_true,List.contains_iff_mem,List.contains_iff_mem,List.contains_iff_mem,eB,List.mem_filter,List.mem_filter,Bool.or_eq_true,Bool.or_eq_true,List.contains_iff_mem,List.contains_iff_mem,List.mem_filter];constructor
 ·rintro(⟨_,h1|h1⟩|h1)
  ·exact .inl h1
  ·exact .inr ⟨h1.1, .inl h1.2⟩
  ·refine .inr ⟨?_, .inr h1⟩
   have:=Lp (k:=k) (i:=0) (Lq.mp h1);rw[Nat.zero_add]at this;exact this
 ·rintro(h1|⟨h1,h2|h2⟩)
  ·exact .inl ⟨mk, .inl h1⟩
  ·exact .inl ⟨mk, .inr ⟨h1,h2⟩⟩
  ·exact .inr h2
theorem abX {h:House}(hd:cQ h){b:Bunch}{r:Nat}(hb:∀k∈b,k<h.keys.length) (hs:jX b) (hr:r<h.rooms){y:Stand}(c:Reach (uq h) (r,h.all r b) y):
  y.1<h.rooms∧∃p:Nat→Bool,y.2=(List.range h.keys.length).filter fun k=>b.contains k||((p8 h.hooks 0).filter p).contains k:=by
 refine Reach.closed (P:=fun y:Stand=>y.1<h.rooms∧∃p:Nat→Bool,y.2=(List.range h.keys.length).filter fun k=>b.contains k||((p8 h.hooks 0).filter p).contains k) c ⟨hr,?_⟩ ?_
 ·refine YB (fun _=>false) b (oh hs (dB _ (eE _)) fun k=>?_)
  rw[List.mem_filter,List.mem_range,Bool.or_eq_true,List.contains_iff_mem];constructor
  ·intro m
   exact⟨hb k m, .inl m⟩
  ·rintro⟨_,m|m⟩
   ·exact m
   ·simp at m
 ·rintro x y ⟨hx,p,ep⟩ ⟨s,h1,h2,h3,rfl⟩
  exact⟨rB hd h1,YB p x.2 ep⟩
theorem Ja {h:House}(hd:cQ h){b:Bunch}{r:Nat}(hb:∀k∈b,k<h.keys.length) (hs:jX b) (hr:r<h.rooms) (hh:hangs h≤HANG) (l:Stands) (nd:l.Nodup) (hl:∀y∈l,Reach (uq h) (r,h.all r b) y):l.length≤h.rooms*2^HANG:=by
 have h1:=nd.length_le_of_subset (l₂:=univ h b) (fun y my=>by
  obtain⟨k1,p,k2⟩:=abX hd hb hs hr (hl y my);unfold univ;refine List.mem_flatMap.mpr ⟨y.1,List.mem_range.mpr k1,List.mem_map.mpr ⟨_,ux p _,?_⟩⟩;rw[←k2])
 rw[ZL]at h1;exact Nat.le_trans h1 (Nat.mul_le_mul_left _ (Nat.pow_le_pow_right (by decide) hh))
theorem Cw {h:House}(hd:cQ h){b:Bunch}{r:Nat}(hb:∀k∈b,k<h.keys.length) (hs:jX b) (hr:r<h.rooms) (hh:hangs h≤HANG) (y:Stand):y∈h.found b r↔Reach (uq h) (r,h.all r b) y:=by
 unfold House.found;refine Qt (N:=h.rooms*2^HANG) (Ja hd hb hs hr hh) _ _ _ (by simp) (fun y m=>?_) (List.mem_singleton.mpr rfl) (fun y m=>m) (fun x m=> .inl m) ?_ y
 ·rw[List.mem_singleton]at m
  rw[m];exact .base
 ·rw[List.length_singleton]
  omega
theorem JD {h:House}(hd:cQ h){b:Bunch}{r:Nat}(hb:∀k∈b,k<h.keys.length) (hs:jX b) (hr:r<h.rooms) (hh:hangs h≤HANG){p:Nat→Bool}(hp:∀t,t<h.rooms→(p t=true↔∃B,Reach (uq h) (r,h.all r b) (t,B))):h.foundRooms b r=(List.range h.rooms).filter p:=by
 unfold House.foundRooms;refine List.filter_congr fun t mt=>?_
 rw[Bool.eq_iff_iff,List.any_eq_true,hp t (List.mem_range.mp mt)];constructor
 ·rintro⟨⟨x,B⟩,m,e⟩
  have e':x=t:=eq_of_beq e;subst e';exact⟨B,(Cw hd hb hs hr hh _).mp m⟩
 ·rintro⟨B,c⟩
  exact⟨(t,B),(Cw hd hb hs hr hh _).mpr c,beq_self_eq_true t⟩
theorem Lr {h:House}(hd:cQ h){b:Bunch}{r:Nat}(hb:∀k∈b,k<h.keys.length) (hs:jX b) (hr:r<h.rooms) (hh:hangs h≤HANG){p:Nat→Bool}(hp:∀k,k<h.keys.length→(p k=true↔∃t B,Reach (uq h) (r,h.all r b) (t,B)∧k∈B)):h.foundKeys b r=(List.range h.keys.length).filter p:=by
 unfold House.foundKeys;refine List.filter_congr fun k mk=>?_
 rw[Bool.eq_iff_iff,List.any_eq_true,hp k (List.mem_range.mp mk)];constructor
 ·rintro⟨⟨x,B⟩,m,e⟩
  exact⟨x,B,(Cw hd hb hs hr hh _).mp m,List.contains_iff_mem.mp e⟩
 ·rintro⟨t,B,c,m⟩
  exact⟨(t,B),(Cw hd hb hs hr hh _).mpr c,List.contains_iff_mem.mpr m⟩
end Kd
end
section
namespace Kd
open Kh KhRooms
theorem ag9 (n k:Nat):decide (((n:Int)/2^k)%2=1)=n.testBit k:=by
 rw[Nat.testBit_eq_decide_div_mod_eq];have e:((n:Int)/2^k)%2=((n/2^k%2:Nat):Int):=by simp
 rw[e];by_cases c:n/2^k%2=1
 ·rw[decide_eq_true c]
  rw[c];rfl
 ·rw[decide_eq_false c]
  apply decide_eq_false;omega
def fM (s D:Nat):List Nat:=(List.range D).filter fun i=>s.testBit i
theorem T5 {s D:Nat}(h:s<2^D) (hD:D≤32):members s=fM s D:=by
 unfold members fM;refine oh (dB _ (eE _)) (dB _ (eE _)) fun x=>?_
 rw[List.mem_filter,List.mem_filter,List.mem_range,List.mem_range];constructor
 ·rintro⟨_,b⟩
  refine⟨?_,b⟩;apply Classical.byContradiction;intro c;have:=Nat.testBit_lt_two_pow (Nat.lt_of_lt_of_le h (Nat.pow_le_pow_right (by decide) (show D≤x by omega)));rw[this]at b;cases b
 ·rintro⟨l,b⟩
  exact⟨by omega,b⟩
theorem T6 {s D:Nat}(hs:s<2^32):((members s).all fun x=>decide (x<D))=decide (s/2^D=0):=by
 rw[Bool.eq_iff_iff,List.all_eq_true,decide_eq_true_iff,Nat.div_eq_zero_iff];constructor
 ·intro h
  refine .inr (Nat.lt_pow_two_of_testBit s fun i hi=>?_);cases c:s.testBit i with
  |false=>rfl
  |true=>
   have akj:i<32:=by
    apply Classical.byContradiction;intro n;have:=Nat.testBit_lt_two_pow (Nat.lt_of_lt_of_le hs (Nat.pow_le_pow_right (by decide) (show 32≤i by omega)));rw[this]at c;cases c
   have:=h i (List.mem_filter.mpr ⟨List.mem_range.mpr akj,c⟩);have:=of_decide_eq_true this;omega
 ·rintro(h|h) x m
  ·have:0<2^D:=Nat.two_pow_pos D
   omega
  ·have:=(List.mem_filter.mp m).2
   apply decide_eq_true;apply Classical.byContradiction;intro n;have q:=Nat.testBit_lt_two_pow (Nat.lt_of_lt_of_le h (Nat.pow_le_pow_right (by decide) (show D≤x by omega)));rw[q]at this;cases this
theorem T7 (p:Nat):∀l:List Nat,apart p l=(l.zip l.tail).all fun x=>decide (x.1+p≤x.2)
 |[]=>rfl
 |[_]=>rfl
 |x::y::r=>by
  show(decide (x+p≤y)&&apart p (y::r))=_;rw[T7 p (y::r)];rfl
theorem Jb:∀{l:List Nat},jX l→rises l=true
 |[],_=>rfl
 |[_],_=>rfl
 |x::y::r,h=>by
  have h':=List.pairwise_cons.mp h;show(decide (x+1≤y)&&apart 1 (y::r))=true;rw[Bool.and_eq_true];exact⟨decide_eq_true (h'.1 y (List.mem_cons_self ..)),Jb h'.2⟩
def setOk (D pin s:Nat):Bool:=decide (s/2^D=0)&&(within 1 6 (fM s D).length&&apart pin (fM s D))
theorem N6 {m:Make}{s:Nat}(hs:s<2^32) (hD:m.depths≤32):setOk m.depths m.pin s=(chamberShaped m (members s)&&(decide ((members s).length≤SHEARS)&&apart m.pin (members s))):=by
 unfold setOk chamberShaped;rw[T6 hs,show rises (members s)=true from Jb (dB _ (eE _)),Bool.true_and];by_cases c:s/2^m.depths=0
 ·have hlt:s<2^m.depths:=by
   rcases Nat.div_eq_zero_iff.mp c with h|h
   ·have:0<2^m.depths:=Nat.two_pow_pos _
    omega
   ·exact h
  rw[T5 hlt hD,decide_eq_true c,Bool.true_and,Bool.and_true];unfold within SHEARS;rw[Bool.and_assoc]
  congr 1
  cases fM s m.depths with
  |nil=>rfl
  |cons a l=>simp
 ·rw[decide_eq_false c]
  simp
theorem YC {m:Make}{w:Nat}{l:List Nat}(hl:∀s∈l,s<2^32) (hD:m.depths≤32):Cyl.ok m ⟨w,l.map members⟩=(decide (l.length=m.n)&&(l.all (setOk m.depths m.pin)&&decide (w<2^26))):=by
 unfold Cyl.ok Cyl.shaped;show((decide (w<2^LETTERS)&&((l.map members).length==m.n&&(l.map members).all (chamberShaped m)))&&(l.map members).all fun s=>decide (s.length≤SHEARS)&&apart m.pin s)=_;have e:(l.all (setOk m.depths m.pin))=(((l.map members).all (chamberShaped m))&&(l.map members).all fun s=>decide (s.length≤SHEARS)&&apart m.pin s):=by
  rw[Bool.eq_iff_iff,Bool.and_eq_true,List.all_eq_true,List.all_eq_true,List.all_eq_true];constructor
  ·intro h
   refine⟨fun x mx=>?_,fun x mx=>?_⟩
   ·obtain⟨s,ms,rfl⟩:=List.mem_map.mp mx
    have:=h s ms;rw[N6 (hl s ms) hD,Bool.and_eq_true]at this;exact this.1
   ·obtain⟨s,ms,rfl⟩:=List.mem_map.mp mx
    have:=h s ms;rw[N6 (hl s ms) hD,Bool.and_eq_true]at this;exact this.2
  ·rintro⟨h1,h2⟩ s ms
   rw[N6 (hl s ms) hD,Bool.and_eq_true];exact⟨h1 _ (List.mem_map.mpr ⟨s,ms,rfl⟩),h2 _ (List.mem_map.mpr ⟨s,ms,rfl⟩)⟩
 rw[e,List.length_map,show LETTERS=26 from rfl];rw[show(l.length==m.n)=decide (l.length=m.n)from rfl];cases decide (w<2^26)<;>cases decide (l.length=m.n)<;>cases((l.map members).all (chamberShaped m))<;>simp
theorem YD {m:Make}{g:Nat}{l:List Nat}:Kh.Key.shaped m ⟨g,l⟩=(decide (l.length=m.n)&&((l.all fun x=>decide (x<m.depths))&&decide (g<2^26))):=by
 unfold Kh.Key.shaped Kh.shaped;show(decide (g<2^LETTERS)&&((l.length==m.n)&&l.all fun x=>decide (x<m.depths)))=_;rw[show LETTERS=26 from rfl,show(l.length==m.n)=decide (l.length=m.n)from rfl];cases decide (g<2^26)<;>cases decide (l.length=m.n)<;>simp
theorem adW {g w:Nat}(hw:w<2^26):goesIn g w=decide (g&&&w=w):=by
 unfold goesIn;rw[Bool.eq_iff_iff,List.all_eq_true,decide_eq_true_iff];constructor
 ·intro h
  apply Nat.eq_of_testBit_eq;intro i;rw[Nat.testBit_and];by_cases hi:i<26
  ·have:=h i (List.mem_range.mpr hi)
   cases a:w.testBit i<;>simp_all
  ·have:=Nat.testBit_lt_two_pow (Nat.lt_of_lt_of_le hw (Nat.pow_le_pow_right (by decide) (show 26≤i by omega)))
   rw[this];simp
 ·intro h i _
  have:=congrArg (fun z=>z.testBit i) h;simp only[Nat.testBit_and]at this;cases a:w.testBit i<;>simp_all
theorem ZM:∀{c l:List Nat},c.length=l.length→(∀x∈c,x<32)→fitsCuts c (l.map members)=(c.zip l).all fun x=>x.2.testBit x.1:=by
 intro c l hl hc;unfold fitsCuts;rw[List.length_map,show(c.length==l.length)=true by rw[hl];exact beq_self_eq_true _,Bool.true_and,List.zip_map_right,List.all_map];rw[Bool.eq_iff_iff,List.all_eq_true,List.all_eq_true];refine forall_congr' fun x=>forall_congr' fun m=>?_
 show(members x.2).contains x.1=true↔x.2.testBit x.1=true;rw[List.contains_iff_mem];unfold members;rw[List.mem_filter,List.mem_range];exact⟨fun q=>q.2,fun q=>⟨hc _ (List.of_mem_zip m).1,q⟩⟩
theorem afI {g w:Nat}{c l:List Nat}(hw:w<2^26) (hl:c.length=l.length) (hc:∀x∈c,x<32):Kh.turns ⟨g,c⟩ ⟨w,l.map members⟩=(decide (g&&&w=w)&&(c.zip l).all fun x=>x.2.testBit x.1):=by
 unfold Kh.turns;rw[adW hw,ZM hl hc]
end Kd
end
section
namespace Kd
open Kh KhRooms
def gC (hg:List (Nat×Nat)) (k:Nat):Option Nat:=(hg.find? fun p=>decide (p.1=k)).map (·.2)
def putN (hg:List (Nat×Nat)) (k r:Nat):List (Nat×Nat):=if (hg.any fun p=>decide (p.1=k))=true then hg.map fun p=>if p.1=k then(p.1,r)else p else hg++[(k,r)]
def zR (hg:List (Nat×Nat)) (k:Nat):List (Nat×Nat):=hg.filter fun p=>decide (p.1≠k)
theorem uy (k:Nat):∀hg:List (Nat×Nat),(hg.any fun p=>decide (p.1=k))=(gC hg k).isSome
 |[]=>rfl
 |p::r=>by
  unfold gC;rw[List.any_cons,List.find?_cons];by_cases e:p.1=k
  ·simp[e]
  ·simp only[e,decide_false,Bool.false_or]
   exact uy k r
theorem sH {k:Nat}:∀{hg:List (Nat×Nat)},(gC hg k).isSome=true↔k∈hg.map (·.1):=by
 intro hg;rw[←uy,List.any_eq_true,List.mem_map];constructor
 ·rintro⟨p,m,e⟩
  exact⟨p,m,of_decide_eq_true e⟩
 ·rintro⟨p,m,e⟩
  exact⟨p,m,decide_eq_true e⟩
theorem jh (p:Nat×Nat) (r:List (Nat×Nat)) (k:Nat):gC (p::r) k=if p.1=k then some p.2 else gC r k:=by
 unfold gC;rw[List.find?_cons];by_cases e:p.1=k<;>simp[e]
theorem YF (k r j:Nat):∀hg:List (Nat×Nat),gC (hg.map fun p=>if p.1=k then(p.1,r)else p) j=(gC hg j).map fun x=>if j=k then r else x
 |[]=>rfl
 |p::l=>by
  rw[List.map_cons,jh,jh,YF k r j l];by_cases e:p.1=k
  ·by_cases e2:p.1=j
   ·have:j=k:=by omega
    simp[e,this]
   ·have:¬k=j:=by omega
    simp[e,this]
  ·by_cases e2:p.1=j
   ·have:¬j=k:=by omega
    simp[e,e2,this]
   ·simp[e,e2]
theorem T8 (k r j:Nat):∀hg:List (Nat×Nat),gC hg k=none→gC (hg++[(k,r)]) j=if j=k then some r else gC hg j
 |[],_=>by
  rw[List.nil_append,jh];by_cases e:k=j
  ·simp[e]
  ·have:¬j=k:=fun z=>e z.symm
   simp[e,this]
 |p::l,h=>by
  rw[jh]at h;rw[List.cons_append,jh,jh];by_cases e:p.1=k
  ·rw[if_pos e]at h;cases h
  ·rw[if_neg e]at h
   rw[T8 k r j l h];by_cases e2:p.1=j
   ·have:¬j=k:=by omega
    simp[e2,this]
   ·simp[e2]
theorem YG (hg:List (Nat×Nat)) (k r j:Nat):gC (putN hg k r) j=if j=k then some r else gC hg j:=by
 unfold putN;by_cases c:(hg.any fun p=>decide (p.1=k))=true
 ·rw[if_pos c,YF]
  by_cases e:j=k
  ·subst e
   rw[uy]at c;obtain⟨x,hx⟩:=Option.isSome_iff_exists.mp c;rw[hx];simp
  ·simp[e]
 ·rw[if_neg c]
  refine T8 k r j hg ?_;rw[uy]at c;cases q:gC hg k with
  |none=>rfl
  |some x=>rw[q]at c;exact absurd rfl c
theorem T9 (k j:Nat):∀hg:List (Nat×Nat),gC (zR hg k) j=if j=k then none else gC hg j
 |[]=>by simp[zR,gC]
 |p::l=>by
  have ih:=T9 k j l;unfold zR at ih⊢;rw[List.filter_cons];by_cases e:p.1=k
  ·rw[if_neg (by simp[e]),ih,jh]
   by_cases e2:j=k
   ·simp[e2]
   ·have:¬p.1=j:=by omega
    simp[e2,this]
  ·rw[if_pos (by simp[e]),jh,ih,jh]
   by_cases e2:p.1=j
   ·have:¬j=k:=by omega
    simp[e2,this]
   ·simp[e2]
theorem YH (hg:List (Nat×Nat)) (k r:Nat):(putN hg k r).map (·.1)=if k∈hg.map (·.1)then hg.map (·.1)else hg.map (·.1)++[k]:=by
 unfold putN;rw[uy];by_cases c:k∈hg.map (·.1)
 ·rw[if_pos (sH.mpr c),if_pos c,List.map_map]
  refine List.map_congr_left fun p _=>?_
  show(if p.1=k then(p.1,r)else p).1=p.1
  split<;>rfl
 ·rw[if_neg (fun z=>c (sH.mp z)),if_neg c,List.map_append]
  rfl
def fX (c:Nat×List Nat):Cyl:=⟨c.1,c.2.map members⟩
structure bV (h:House) (cb:List (Nat×List Nat)) (hg:List (Nat×Nat)):Prop where
 made:h.make.ok=true
 keys:∀k∈h.keys,Kh.Key.shaped h.make k=true
 cyls:h.cyls=cb.map fX
 zT:∀c∈cb,Cyl.ok h.make (fX c)=true∧∀s∈c.2,s<2^32
 doors:cQ h
 sides:∀d∈h.doors,sideOk cb.length d.sa=true∧sideOk cb.length d.sb=true
 hl:h.hooks.length=h.keys.length
 hooks:∀k,k<h.keys.length→h.hooks[k]?=some (gC hg k)
 Cy:∀p∈hg,p.1<h.keys.length∧p.2<h.rooms
 hnd:(hg.map (·.1)).Nodup
 hn:hg.length≤4
 rooms:1≤h.rooms∧h.rooms≤24
 nk:h.keys.length≤8
 nc:cb.length≤16
 nd:h.doors.length≤24
theorem Ls {hg:List (Nat×Nat)}{l:List (Option Nat)}(hl:∀k,k<l.length→l[k]?=some (gC hg k)) (hk:∀p∈hg,p.1<l.length) (nd:(hg.map (·.1)).Nodup):(l.filter Option.isSome).length=hg.length:=by
 have e1:(l.filter Option.isSome).length=((List.range l.length).filter fun k=>(gC hg k).isSome).length:=by
  have:l=(List.range l.length).map (gC hg):=by
   apply List.ext_getElem?;intro i;rw[List.getElem?_map];by_cases c:i<l.length
   ·rw[hl i c,List.getElem?_range c];rfl
   ·rw[List.getElem?_eq_none (by omega),List.getElem?_eq_none (by rw[List.length_range];omega)];rfl
  conv=>lhs;rw[this]
  rw[List.filter_map,List.length_map];rfl
 rw[e1];have nd2:((List.range l.length).filter fun k=>(gC hg k).isSome).Nodup:=iu (dB _ (eE _));apply Nat.le_antisymm
 ·have:=nd2.length_le_of_subset (l₂:=hg.map (·.1)) fun k m=>sH.mp (List.mem_filter.mp m).2
  rwa [List.length_map]at this
 ·have:=nd.length_le_of_subset (l₂:=(List.range l.length).filter fun k=>(gC hg k).isSome) fun k m=>by
   obtain⟨p,mp,e⟩:=List.mem_map.mp m;exact List.mem_filter.mpr ⟨List.mem_range.mpr (by rw[←e];exact hk p mp),sH.mpr m⟩
  rwa [List.length_map]at this
theorem bV.new {m:Make}{R:Nat}(hm:m.ok=true) (h1:1≤R) (h2:R≤24):bV ⟨m,[],[],[],R,[]⟩ [] []:=
 ⟨hm,by simp,rfl,by simp,(by intro d m;cases m),by simp,rfl,by simp,by simp,by simp,by simp,⟨h1,h2⟩,by simp,by simp,by simp⟩
theorem bV.key {h:House}{cb:List (Nat×List Nat)}{hg:List (Nat×Nat)}(I:bV h cb hg){k:Kh.Key}(hk:Kh.Key.shaped h.make k=true) (hn:h.keys.length<8):bV {h with keys:=h.keys++[k],hooks:=h.hooks++[none]} cb hg:=by
 have noN:gC hg h.keys.length=none:=by
  cases q:gC hg h.keys.length with
  |none=>rfl
  |some x=>
   have:(gC hg h.keys.length).isSome=true:=by rw[q];rfl
   obtain⟨p,m,e⟩:=List.mem_map.mp (sH.mp this);have:=(I.Cy p m).1;omega
 refine⟨I.made,?_,I.cyls,I.zT,I.doors,I.sides,?_,?_,?_,I.hnd,I.hn,I.rooms,?_,I.nc,I.nd⟩
 ·intro x m
  rcases List.mem_append.mp m with m|m
  ·exact I.keys x m
  ·rw[List.mem_singleton]at m
   rw[m];exact hk
 ·simp[I.hl]
 ·intro j hj
  have hj:j<(h.keys++[k]).length:=hj;rw[List.length_append,List.length_singleton]at hj;show(h.hooks++[none])[j]?=_;by_cases c:j<h.keys.length
  ·rw[List.getElem?_append_left (by rw[I.hl];exact c)]
   exact I.hooks j c
  ·have e:j=h.keys.length:=by omega
   subst e;rw[List.getElem?_append_right (by rw[I.hl];exact Nat.le_refl _),I.hl,Nat.sub_self,noN];rfl
 ·intro p m
  refine⟨?_,(I.Cy p m).2⟩;show p.1<(h.keys++[k]).length;rw[List.length_append,List.length_singleton];have:=(I.Cy p m).1;omega
 ·show(h.keys++[k]).length≤8
  rw[List.length_append,List.length_singleton];omega
theorem Lw {n:Nat}{x:Side}(h:sideOk n x=true):sideOk (n+1) x=true:=by
 cases x with
 |free=>rfl
 |shut=>rfl
 |locked c=>
  have:=of_decide_eq_true (show decide (c<n)=true from h);exact decide_eq_true (show c<n+1 by omega)
theorem bV.cyl {h:House}{cb:List (Nat×List Nat)}{hg:List (Nat×Nat)}(I:bV h cb hg){c:Nat×List Nat}(hc:Cyl.ok h.make (fX c)=true) (hb:∀s∈c.2,s<2^32) (hn:cb.length<16):bV {h with cyls:=h.cyls++[fX c]} (cb++[c]) hg:=by
 refine⟨I.made,I.keys,?_,?_,I.doors,?_,I.hl,I.hooks,I.Cy,I.hnd,I.hn,I.rooms,I.nk,?_,I.nd⟩
 ·show h.cyls++[fX c]=_
  rw[I.cyls,List.map_append];rfl
 ·intro x m
  rcases List.mem_append.mp m with m|m
  ·exact I.zT x m
  ·rw[List.mem_singleton]at m
   rw[m];exact⟨hc,hb⟩
 ·intro d m
  rw[List.length_append,List.length_singleton];exact⟨Lw (I.sides d m).1,Lw (I.sides d m).2⟩
 ·rw[List.length_append,List.length_singleton]
  omega
theorem bV.door {h:House}{cb:List (Nat×List Nat)}{hg:List (Nat×Nat)}(I:bV h cb hg){d:Door}(ha:d.a<h.rooms) (hb:d.b<h.rooms) (h1:sideOk cb.length d.sa=true) (h2:sideOk cb.length d.sb=true) (hn:h.doors.length<24):bV {h with doors:=h.doors++[d]} cb hg:=by
 refine⟨I.made,I.keys,I.cyls,I.zT,?_,?_,I.hl,I.hooks,I.Cy,I.hnd,I.hn,I.rooms,I.nk,I.nc,?_⟩
 ·intro x m
  rcases List.mem_append.mp m with m|m
  ·exact I.doors x m
  ·rw[List.mem_singleton]at m
   rw[m];exact⟨ha,hb⟩
 ·intro x m
  rcases List.mem_append.mp m with m|m
  ·exact I.sides x m
  ·rw[List.mem_singleton]at m
   rw[m];exact⟨h1,h2⟩
 ·show(h.doors++[d]).length≤24
  rw[List.length_append,List.length_singleton];omega
def wL (h:House) (s:Nat) (x:Side):House:={h with doors:=h.doors.modify (s/2) fun(d:Door)=>if s%2=0 then{d with sa:=x}else{d with sb:=x}}
theorem Gf (h:House) (s:Nat) (x:Side):(wL h s x).doors.length=h.doors.length:=List.length_modify _ _ _
theorem Cz (h:House) (s j:Nat) (x:Side):(wL h s x).doors[j]?=(h.doors[j]?).map fun d=>if s/2=j then(if s%2=0 then{d with sa:=x}else{d with sb:=x})else d:=by
 show(h.doors.modify (s/2) _)[j]?=_;rw[List.getElem?_modify];cases h.doors[j]? with
 |none=>rfl
 |some d=>
  show some _=some _;by_cases e:s/2=j<;>simp[e]
theorem ZP (h:House){s t:Nat}(x:Side) (hs:s<2*h.doors.length):(wL h s x).side t=if t=s then some x else h.side t:=by
 unfold House.side;rw[Cz];by_cases c:t=s
 ·subst c
  obtain⟨d,e,_⟩:=xV hs;rw[e,if_pos rfl];show some (if t%2=0 then _ else _)=_;by_cases e2:t%2=0<;>simp[e2]
 ·rw[if_neg c]
  cases h.doors[t/2]? with
  |none=>rfl
  |some d=>
   show some (if t%2=0 then _ else _)=some (if t%2=0 then _ else _);by_cases e:s/2=t/2<;>by_cases e2:s%2=0<;>by_cases e3:t%2=0<;>simp[e,e2,e3]<;>omega
theorem Qu {h:House}{s:Nat}{x:Side}{d:Door}(m:d∈(wL h s x).doors):∃d0∈h.doors,d.a=d0.a∧d.b=d0.b∧(d.sa=d0.sa∨d.sa=x)∧(d.sb=d0.sb∨d.sb=x):=by
 obtain⟨i,hi⟩:=List.mem_iff_getElem?.mp m;rw[Cz]at hi;cases e:h.doors[i]? with
 |none=>rw[e]at hi;cases hi
 |some d0=>
  rw[e]at hi;have q:(if s/2=i then(if s%2=0 then{d0 with sa:=x}else{d0 with sb:=x})else d0)=d:=Option.some.inj hi;refine⟨d0,List.mem_of_getElem? e,?_⟩;rw[←q];by_cases e1:s/2=i<;>by_cases e2:s%2=0<;>simp[e1,e2]
theorem bV.fit {h:House}{cb:List (Nat×List Nat)}{hg:List (Nat×Nat)}(I:bV h cb hg) (s:Nat){x:Side}(hx:sideOk cb.length x=true):bV (wL h s x) cb hg:=by
 refine⟨I.made,I.keys,I.cyls,I.zT,?_,?_,I.hl,I.hooks,I.Cy,I.hnd,I.hn,I.rooms,I.nk,I.nc,?_⟩
 ·intro d m
  obtain⟨d0,m0,e1,e2,_⟩:=Qu m;rw[e1,e2];exact I.doors d0 m0
 ·intro d m
  obtain⟨d0,m0,_,_,e3,e4⟩:=Qu m;have k:=I.sides d0 m0;refine⟨?_,?_⟩
  ·rcases e3 with e|e
   ·rw[e];exact k.1
   ·rw[e];exact hx
  ·rcases e4 with e|e
   ·rw[e];exact k.2
   ·rw[e];exact hx
 ·rw[Gf];exact I.nd
theorem ZQ (h:House) (d:Door) (t:Nat):({h with doors:=h.doors++[d]}:House).side t=if t<2*h.doors.length then h.side t else if t=2*h.doors.length then some d.sa else if t=2*h.doors.length+1 then some d.sb else none:=by
 unfold House.side;show((h.doors++[d])[t/2]?).map _=_;by_cases c:t<2*h.doors.length
 ·rw[if_pos c,List.getElem?_append_left (by omega)]
 ·rw[if_neg c,List.getElem?_append_right (by omega)]
  by_cases c1:t=2*h.doors.length
  ·rw[if_pos c1,show t/2-h.doors.length=0 by omega]
   show some (if t%2=0 then d.sa else d.sb)=_;rw[if_pos (by omega)]
  ·rw[if_neg c1]
   by_cases c2:t=2*h.doors.length+1
   ·rw[if_pos c2,show t/2-h.doors.length=0 by omega]
    show some (if t%2=0 then d.sa else d.sb)=_;rw[if_neg (by omega)]
   ·rw[if_neg c2,List.getElem?_eq_none (by rw[List.length_singleton];omega)]
    rfl
theorem bV.hang {h:House}{cb:List (Nat×List Nat)}{hg:List (Nat×Nat)}(I:bV h cb hg){k r:Nat}(hk:k<h.keys.length) (hr:r<h.rooms) (hn:(putN hg k r).length≤4):bV {h with hooks:=h.hooks.set k (some r)} cb (putN hg k r):=by
 refine⟨I.made,I.keys,I.cyls,I.zT,I.doors,I.sides,?_,?_,?_,?_,hn,I.rooms,I.nk,I.nc,I.nd⟩
 ·show(h.hooks.set k (some r)).length=_
  rw[List.length_set];exact I.hl
 ·intro j hj
  show(h.hooks.set k (some r))[j]?=_;rw[YG];by_cases e:j=k
  ·subst e
   rw[if_pos rfl,List.getElem?_set_self (by rw[I.hl];exact hk)]
  ·rw[if_neg e,List.getElem?_set_ne (fun z=>e z.symm)]
   exact I.hooks j hj
 ·intro p m
  unfold putN at m
  split at m
  ·obtain⟨q,mq,e⟩:=List.mem_map.mp m
   rw[←e];have:=I.Cy q mq;by_cases c:q.1=k
   ·rw[if_pos c];exact⟨this.1,hr⟩
   ·rw[if_neg c];exact this
  ·rcases List.mem_append.mp m with m|m
   ·exact I.Cy p m
   ·rw[List.mem_singleton]at m
    rw[m];exact⟨hk,hr⟩
 ·rw[YH]
  split
  ·exact I.hnd
  ·rename_i c
   rw[List.nodup_append];refine⟨I.hnd,by simp,fun a ma b mb=>?_⟩;rw[List.mem_singleton]at mb;subst mb;rintro rfl;exact c ma
theorem Qv (hg:List (Nat×Nat)) (k r:Nat):(putN hg k r).length=if (gC hg k).isSome=true then hg.length else hg.length+1:=by
 unfold putN;rw[uy]
 split
 ·rw[List.length_map]
 ·rw[List.length_append];rfl
theorem adX {h:House}{cb:List (Nat×List Nat)}{hg:List (Nat×Nat)}(I:bV h cb hg){k r:Nat}(hk:k<h.keys.length) (hr:r<h.rooms):Kh.hangs {h with hooks:=h.hooks.set k (some r)}=(putN hg k r).length:=by
 show((h.hooks.set k (some r)).filter Option.isSome).length=_;refine Ls (fun j hj=>?_) (fun p m=>?_) ?_
 ·rw[List.length_set,I.hl]at hj
  rw[YG];by_cases e:j=k
  ·subst e
   rw[if_pos rfl,List.getElem?_set_self (by rw[I.hl];exact hk)]
  ·rw[if_neg e,List.getElem?_set_ne (fun z=>e z.symm)]
   exact I.hooks j hj
 ·rw[List.length_set,I.hl]
  unfold putN at m
  split at m
  ·obtain⟨q,mq,e⟩:=List.mem_map.mp m
   rw[←e];have:=(I.Cy q mq).1;by_cases c:q.1=k
   ·rw[if_pos c];exact this
   ·rw[if_neg c];exact this
  ·rcases List.mem_append.mp m with m|m
   ·exact(I.Cy p m).1
   ·rw[List.mem_singleton]at m
    rw[m];exact hk
 ·rw[YH]
  split
  ·exact I.hnd
  ·rename_i c
   rw[List.nodup_append];refine⟨I.hnd,by simp,fun a ma b mb=>?_⟩;rw[List.mem_singleton]at mb;subst mb;rintro rfl;exact c ma
theorem bV.unhang {h:House}{cb:List (Nat×List Nat)}{hg:List (Nat×Nat)}(I:bV h cb hg){k:Nat}(hk:k<h.keys.length):bV {h with hooks:=h.hooks.set k none} cb (zR hg k):=by
 refine⟨I.made,I.keys,I.cyls,I.zT,I.doors,I.sides,?_,?_,?_,?_,?_,I.rooms,I.nk,I.nc,I.nd⟩
 ·show(h.hooks.set k none).length=_
  rw[List.length_set];exact I.hl
 ·intro j hj
  show(h.hooks.set k none)[j]?=_;rw[T9];by_cases e:j=k
  ·subst e
   rw[if_pos rfl,List.getElem?_set_self (by rw[I.hl];exact hk)]
  ·rw[if_neg e,List.getElem?_set_ne (fun z=>e z.symm)]
   exact I.hooks j hj
 ·intro p m
  exact I.Cy p (List.mem_filter.mp m).1
 ·have:(zR hg k).map (·.1)=(hg.map (·.1)).filter fun x=>decide (x≠k):=by
   unfold zR;rw[List.filter_map];rfl
  rw[this];exact I.hnd.filter _
 ·exact Nat.le_trans (List.length_filter_le _ _) I.hn
theorem bV.hook {h:House}{cb:List (Nat×List Nat)}{hg:List (Nat×Nat)}(I:bV h cb hg){k:Nat}(hk:k<h.keys.length):h.hooks.getD k none=gC hg k:=by
 rw[List.getD_eq_getElem?_getD,I.hooks k hk];rfl
theorem YJ (h:House) (k:Kh.Key):made h (.key k.grooves k.cuts)=if (Kh.Key.shaped h.make k)=false then some (h,says (-1))else if 8≤h.keys.length then some (h,says (-2))else some ({h with keys:=h.keys++[k],hooks:=h.hooks++[none]},says (h.keys.length:Int)):=rfl
theorem YK (h:House) (c:Nat×List Nat):made h (.cylinder c.1 c.2)=if (Cyl.ok h.make (fX c))=false then some (h,says (-1))else if 16≤h.cyls.length then some (h,says (-2))else some ({h with cyls:=h.cyls++[fX c]},says (h.cyls.length:Int)):=rfl
theorem Ua (h:House) (a b k c l d:Nat):made h (.door a b k c l d)=(match sideOf k c,sideOf l d with
  |some x,some y=>if h.rooms≤a∨h.rooms≤b∨sideOk h.cyls.length x=false∨sideOk h.cyls.length y=false then some (h,says (-4))else if 24≤h.doors.length then some (h,says (-2))else some ({h with doors:=h.doors++[⟨a,b,x,y⟩]},says (h.doors.length:Int))
  |_,_=>some (h,says (-1))):=rfl
theorem YL (h:House) (s k c:Nat):made h (.fit s k c)=(match sideOf k c with
  |none=>some (h,says (-1))
  |some x=>if 2*h.doors.length≤s∨sideOk h.cyls.length x=false then some (h,says (-4))else some (wL h s x,says 0)):=rfl
theorem Ub (h:House) (k r:Nat):made h (.hang k r)=if h.keys.length≤k∨h.rooms≤r then some (h,says (-4))else if 4<hangs {h with hooks:=h.hooks.set k (some r)}then some (h,says (-2))else some ({h with hooks:=h.hooks.set k (some r)},says 0):=rfl
theorem Lx (h:House) (k:Nat):made h (.unhang k)=if h.keys.length≤k then some (h,says (-4))else if ((h.hooks.getD k none).isSome)=false then some (h,says (-3))else some ({h with hooks:=h.hooks.set k none},says 0):=rfl
end Kd
end
section
namespace Kd
open HouseNeutral
inductive Fm:List (List Int)→Prop
 |f0 (a b c d e f g:Int):Fm [[0,a,b,c,d,e,f,g]]
 |f1 (a:Int) (l:List Int):Fm [[1,a],l]
 |f2 (a:Int) (l:List Int):Fm [[2,a],l]
 |f3 (a b c d e f:Int):Fm [[3,a,b,c,d,e,f]]
 |f4 (a b c:Int):Fm [[4,a,b,c]]
 |f5 (a b:Int):Fm [[5,a,b]]
 |f6 (a:Int):Fm [[6,a]]
 |f7:Fm [[7]]
 |f8 (a:Int):Fm [[8,a]]
 |f9 (a b:Int):Fm [[9,a,b]]
 |f10 (a b:Int):Fm [[10,a,b]]
 |f11 (a b c:Int):Fm [[11,a,b,c]]
 |f12 (a b c d:Int):Fm [[12,a,b,c,d]]
 |f13 (a b c:Int):Fm [[13,a,b,c]]
 |f14 (a b c:Int):Fm [[14,a,b,c]]
 |f15 (a b:Int):Fm [[15,a,b]]
 |f16 (a b:Int):Fm [[16,a,b]]
 |f17 (a:Int):Fm [[17,a]]
theorem len0 {α:Type}:∀{l:List α},0=l.length→l=[]
 |[],_=>rfl
theorem dU {α:Type}{n:Nat}:∀{l:List α},n+1=l.length→∃a m,l=a::m∧n=m.length
 |a::m,h=>⟨a,m,rfl,Nat.succ.inj h⟩
theorem Fg {n k a b:Nat}(h:some (n,k)=some (a,b)):n=a∧k=b:=by
 cases h;exact⟨rfl,rfl⟩
theorem aha {c:List (List Int)}(h:PyFlat.okCall PyWqanec.shape c):Fm c:=by
 obtain⟨p,a,xs,rfl,h⟩:=h;unfold PyWqanec.shape at h;by_cases e:p=0
 ·rw[if_pos e]at h
  subst e;obtain⟨k,q⟩:=Fg h;clear h;obtain⟨x0,a0,rfl,k0⟩:=dU k;obtain⟨x1,a1,rfl,k1⟩:=dU k0;obtain⟨x2,a2,rfl,k2⟩:=dU k1;obtain⟨x3,a3,rfl,k3⟩:=dU k2;obtain⟨x4,a4,rfl,k4⟩:=dU k3;obtain⟨x5,a5,rfl,k5⟩:=dU k4;obtain⟨x6,a6,rfl,k6⟩:=dU k5;obtain rfl:=len0 k6;obtain rfl:=len0 q;exact .f0 _ _ _ _ _ _ _
 rw[if_neg e]at h;clear e;by_cases e:p=1
 ·rw[if_pos e]at h
  subst e;obtain⟨k,q⟩:=Fg h;clear h;obtain⟨x0,a0,rfl,k0⟩:=dU k;obtain rfl:=len0 k0;obtain⟨y,ys,rfl,q1⟩:=dU q;obtain rfl:=len0 q1;exact .f1 _ _
 rw[if_neg e]at h;clear e;by_cases e:p=2
 ·rw[if_pos e]at h
  subst e;obtain⟨k,q⟩:=Fg h;clear h;obtain⟨x0,a0,rfl,k0⟩:=dU k;obtain rfl:=len0 k0;obtain⟨y,ys,rfl,q1⟩:=dU q;obtain rfl:=len0 q1;exact .f2 _ _
 rw[if_neg e]at h;clear e;by_cases e:p=3
 ·rw[if_pos e]at h
  subst e;obtain⟨k,q⟩:=Fg h;clear h;obtain⟨x0,a0,rfl,k0⟩:=dU k;obtain⟨x1,a1,rfl,k1⟩:=dU k0;obtain⟨x2,a2,rfl,k2⟩:=dU k1;obtain⟨x3,a3,rfl,k3⟩:=dU k2;obtain⟨x4,a4,rfl,k4⟩:=dU k3;obtain⟨x5,a5,rfl,k5⟩:=dU k4;obtain rfl:=len0 k5;obtain rfl:=len0 q;exact .f3 _ _ _ _ _ _
 rw[if_neg e]at h;clear e;by_cases e:p=4
 ·rw[if_pos e]at h
  subst e;obtain⟨k,q⟩:=Fg h;clear h;obtain⟨x0,a0,rfl,k0⟩:=dU k;obtain⟨x1,a1,rfl,k1⟩:=dU k0;obtain⟨x2,a2,rfl,k2⟩:=dU k1;obtain rfl:=len0 k2;obtain rfl:=len0 q;exact .f4 _ _ _
 rw[if_neg e]at h;clear e;by_cases e:p=5
 ·rw[if_pos e]at h
  subst e;obtain⟨k,q⟩:=Fg h;clear h;obtain⟨x0,a0,rfl,k0⟩:=dU k;obtain⟨x1,a1,rfl,k1⟩:=dU k0;obtain rfl:=len0 k1;obtain rfl:=len0 q;exact .f5 _ _
 rw[if_neg e]at h;clear e;by_cases e:p=6
 ·rw[if_pos e]at h
  subst e;obtain⟨k,q⟩:=Fg h;clear h;obtain⟨x0,a0,rfl,k0⟩:=dU k;obtain rfl:=len0 k0;obtain rfl:=len0 q;exact .f6 _
 rw[if_neg e]at h;clear e;by_cases e:p=7
 ·rw[if_pos e]at h
  subst e;obtain⟨k,q⟩:=Fg h;clear h;obtain rfl:=len0 k;obtain rfl:=len0 q;exact .f7
 rw[if_neg e]at h;clear e;by_cases e:p=8
 ·rw[if_pos e]at h
  subst e;obtain⟨k,q⟩:=Fg h;clear h;obtain⟨x0,a0,rfl,k0⟩:=dU k;obtain rfl:=len0 k0;obtain rfl:=len0 q;exact .f8 _
 rw[if_neg e]at h;clear e;by_cases e:p=9
 ·rw[if_pos e]at h
  subst e;obtain⟨k,q⟩:=Fg h;clear h;obtain⟨x0,a0,rfl,k0⟩:=dU k;obtain⟨x1,a1,rfl,k1⟩:=dU k0;obtain rfl:=len0 k1;obtain rfl:=len0 q;exact .f9 _ _
 rw[if_neg e]at h;clear e;by_cases e:p=10
 ·rw[if_pos e]at h
  subst e;obtain⟨k,q⟩:=Fg h;clear h;obtain⟨x0,a0,rfl,k0⟩:=dU k;obtain⟨x1,a1,rfl,k1⟩:=dU k0;obtain rfl:=len0 k1;obtain rfl:=len0 q;exact .f10 _ _
 rw[if_neg e]at h;clear e;by_cases e:p=11
 ·rw[if_pos e]at h
  subst e;obtain⟨k,q⟩:=Fg h;clear h;obtain⟨x0,a0,rfl,k0⟩:=dU k;obtain⟨x1,a1,rfl,k1⟩:=dU k0;obtain⟨x2,a2,rfl,k2⟩:=dU k1;obtain rfl:=len0 k2;obtain rfl:=len0 q;exact .f11 _ _ _
 rw[if_neg e]at h;clear e;by_cases e:p=12
 ·rw[if_pos e]at h
  subst e;obtain⟨k,q⟩:=Fg h;clear h;obtain⟨x0,a0,rfl,k0⟩:=dU k;obtain⟨x1,a1,rfl,k1⟩:=dU k0;obtain⟨x2,a2,rfl,k2⟩:=dU k1;obtain⟨x3,a3,rfl,k3⟩:=dU k2;obtain rfl:=len0 k3;obtain rfl:=len0 q;exact .f12 _ _ _ _
 rw[if_neg e]at h;clear e;by_cases e:p=13
 ·rw[if_pos e]at h
  subst e;obtain⟨k,q⟩:=Fg h;clear h;obtain⟨x0,a0,rfl,k0⟩:=dU k;obtain⟨x1,a1,rfl,k1⟩:=dU k0;obtain⟨x2,a2,rfl,k2⟩:=dU k1;obtain rfl:=len0 k2;obtain rfl:=len0 q;exact .f13 _ _ _
 rw[if_neg e]at h;clear e;by_cases e:p=14
 ·rw[if_pos e]at h
  subst e;obtain⟨k,q⟩:=Fg h;clear h;obtain⟨x0,a0,rfl,k0⟩:=dU k;obtain⟨x1,a1,rfl,k1⟩:=dU k0;obtain⟨x2,a2,rfl,k2⟩:=dU k1;obtain rfl:=len0 k2;obtain rfl:=len0 q;exact .f14 _ _ _
 rw[if_neg e]at h;clear e;by_cases e:p=15
 ·rw[if_pos e]at h
  subst e;obtain⟨k,q⟩:=Fg h;clear h;obtain⟨x0,a0,rfl,k0⟩:=dU k;obtain⟨x1,a1,rfl,k1⟩:=dU k0;obtain rfl:=len0 k1;obtain rfl:=len0 q;exact .f15 _ _
 rw[if_neg e]at h;clear e;by_cases e:p=16
 ·rw[if_pos e]at h
  subst e;obtain⟨k,q⟩:=Fg h;clear h;obtain⟨x0,a0,rfl,k0⟩:=dU k;obtain⟨x1,a1,rfl,k1⟩:=dU k0;obtain rfl:=len0 k1;obtain rfl:=len0 q;exact .f16 _ _
 rw[if_neg e]at h;clear e;by_cases e:p=17
 ·rw[if_pos e]at h
  subst e;obtain⟨k,q⟩:=Fg h;clear h;obtain⟨x0,a0,rfl,k0⟩:=dU k;obtain rfl:=len0 k0;obtain rfl:=len0 q;exact .f17 _
 rw[if_neg e]at h;clear e;cases h
theorem afJ {c:List (List Int)}(h:Fm c):PyWqanec.whole c=c:=by
 cases h<;>rfl
theorem Uc:∀cs:List (List (List Int)),(∀c∈cs,PyFlat.okCall PyWqanec.shape c)→cs.map PyWqanec.whole=cs
 |[],_=>rfl
 |c::cs,h=>by rw[List.map_cons,afJ (aha (h c (.head _))),Uc cs fun d m=>h d (.tail _ m)]
theorem abY {l:List Int}(h:PyWqanec.answers_asked l=true):∃cs,PyWqanec.calls l=some cs∧l=PyFlat.put cs∧(∀c∈cs,PyFlat.okCall PyWqanec.shape c)∧cs.length≤400∧(∀c∈cs,asked1 c=true)∧
  PyWqanec.answers l=PyFlat.told (PyFlat.played HouseNeutral.step HouseNeutral.start cs):=by
 unfold PyWqanec.answers_asked at h;cases e:PyWqanec.calls l with
 |none=>rw[e]at h;cases h
 |some cs=>
  rw[e]at h;have h:(PyFlat.atMost 400 cs&&HouseNeutral.asked cs)=true:=h;rw[Bool.and_eq_true]at h;obtain⟨h1,h2⟩:=h;unfold HouseNeutral.asked at h2;rw[Bool.and_eq_true,Bool.and_eq_true]at h2;have e':=e;unfold PyWqanec.calls at e';cases q:PyFlat.calls PyWqanec.shape l.length l with
  |none=>rw[q]at e';cases e'
  |some ds=>
   rw[q]at e';have e2:ds.map PyWqanec.whole=cs:=Option.some.inj e';obtain⟨k1,k2⟩:=PyFlat.put_calls _ _ _ q;rw[Uc ds k2]at e2;subst e2;refine⟨ds,rfl,k1,k2,of_decide_eq_true h1,List.all_eq_true.mp h2.2,?_⟩;unfold PyWqanec.answers;rw[e]
abbrev ZR (x:Nat):Prop:=x<4294967296
def wholesOf:List Nat:=[7,1,1,6,3,2,1,0,1,2,2,3,4,3,3,2,2,1]
def jy:Nat→List Nat→List Nat→Option KhRooms.Call
 |0,[n,d,t,p,q,r,k],_=>some (.open_ n d t p q r k)
 |1,[g],l=>some (.key g l)
 |2,[w],l=>some (.cylinder w l)
 |3,[a,b,k,c,l,d],_=>some (.door a b k c l d)
 |4,[s,k,c],_=>some (.fit s k c)
 |5,[k,r],_=>some (.hang k r)
 |6,[k],_=>some (.unhang k)
 |7,[],_=>some .counts
 |8,[s],_=>some (.opens s)
 |9,[b,r],_=>some (.leads b r)
 |10,[b,r],_=>some (.found b r)
 |11,[b,r,t],_=>some (.way b r t)
 |12,[b,r,t,k],_=>some (.small b r t k)
 |13,[b,r,t],_=>some (.needed b r t)
 |14,[b,r,t],_=>some (.through b r t)
 |15,[b,r],_=>some (.traps b r)
 |16,[b,t],_=>some (.shut b t)
 |17,[b],_=>some (.parts b)
 |_,_,_=>none
def iz (l:List Nat):List Int:=l.map fun(n:Nat)=>(n:Int)
structure Asks (c:List (List Int)) (p:Nat) (a row:List Nat) (x:KhRooms.Call):Prop where
 form:c=((p:Int)::iz a)::(if p=1∨p=2 then[iz row]else[])
 lt:p<18
 len:wholesOf[p]?=some a.length
 ajN:¬(p=1∨p=2)→row=[]
 is:jy p a row=some x
 of:callOf c=some x
 wA:∀n∈a,ZR n
 wR:∀n∈row,ZR n
 short:row.length≤16
theorem w32 {z:Int}(h:whole32 z=true):∃n:Nat,z=(n:Int)∧ZR n:=by
 unfold whole32 at h;rw[Bool.and_eq_true]at h;have h1:=of_decide_eq_true h.1;have h2:=of_decide_eq_true h.2;exact⟨z.toNat,by omega,by show z.toNat<4294967296;omega⟩
theorem ajv:∀{l:List Int},(l.all fun(z:Int)=>decide (0≤z)&&decide (z≤4294967295))=true→∃ns:List Nat,l=iz ns∧∀n∈ns,ZR n
 |[],_=>⟨[],rfl,by simp⟩
 |z::l,h=>by
  rw[List.all_cons,Bool.and_eq_true,Bool.and_eq_true]at h;have h1:=of_decide_eq_true h.1.1;have h2:=of_decide_eq_true h.1.2;obtain⟨ns,e,k⟩:=ajv h.2;refine⟨z.toNat::ns,?_,fun n m=>?_⟩
  ·show z::l=((z.toNat:Nat):Int)::iz ns
   rw[e,show((z.toNat:Nat):Int)=z by omega]
  ·rcases List.mem_cons.mp m with e'|m
   ·show n<4294967296
    omega
   ·exact k n m
theorem Ud (l:List Nat):nats (iz l)=l:=by
 unfold nats iz;rw[List.map_map];have:(Int.toNat∘fun(n:Nat)=>(n:Int))=id:=by
  funext n;simp
 rw[this,List.map_id]
theorem ahb {l:List Int}(h:long l 16 0 4294967295=true):∃ns:List Nat,l=iz ns∧(∀n∈ns,ZR n)∧ns.length≤16:=by
 unfold long at h;rw[Bool.and_eq_true]at h;obtain⟨ns,e,k⟩:=ajv h.2;refine⟨ns,e,k,?_⟩;have:=of_decide_eq_true h.1;rw[e]at this;simpa[iz]using this
theorem dY:∀n∈([]:List Nat),ZR n:=by simp
theorem bT {x:Nat}{l:List Nat}(h:ZR x) (k:∀n∈l,ZR n):∀n∈x::l,ZR n:=fun n m=>by
 rcases List.mem_cons.mp m with e|m
 ·rw[e];exact h
 ·exact k n m
theorem ahc {c:List (List Int)}(ff:PyFlat.okCall PyWqanec.shape c) (h:asked1 c=true):∃p a row x,Asks c p a row x:=by
 cases aha ff with
 |f0 a b c d e f g=>
  have h:(whole32 a&&whole32 b&&whole32 c&&whole32 d&&whole32 e&&whole32 f&&whole32 g)=true:=h;simp only[Bool.and_eq_true]at h;obtain⟨⟨⟨⟨⟨⟨h1,h2⟩,h3⟩,h4⟩,h5⟩,h6⟩,h7⟩:=h;obtain⟨a,rfl,w1⟩:=w32 h1;obtain⟨b,rfl,w2⟩:=w32 h2;obtain⟨c,rfl,w3⟩:=w32 h3;obtain⟨d,rfl,w4⟩:=w32 h4;obtain⟨e,rfl,w5⟩:=w32 h5;obtain⟨f,rfl,w6⟩:=w32 h6;obtain⟨g,rfl,w7⟩:=w32 h7;exact⟨0,[a,b,c,d,e,f,g],[],_,rfl,by decide,rfl,fun _=>rfl,rfl,rfl,bT w1 (bT w2 (bT w3 (bT w4 (bT w5 (bT w6 (bT w7 dY)))))),dY,Nat.zero_le _⟩
 |f1 a l=>
  have h:(whole32 a&&long l 16 0 4294967295)=true:=h;simp only[Bool.and_eq_true]at h;obtain⟨h1,h2⟩:=h;obtain⟨a,rfl,w1⟩:=w32 h1;obtain⟨l,rfl,v,hl⟩:=ahb h2;exact⟨1,[a],l,_,rfl,by decide,rfl,fun n=>absurd (.inl rfl) n,rfl,(by show some (KhRooms.Call.key a (nats (iz l)))=_;rw[Ud]),bT w1 dY,v,hl⟩
 |f2 a l=>
  have h:(whole32 a&&long l 16 0 4294967295)=true:=h;simp only[Bool.and_eq_true]at h;obtain⟨h1,h2⟩:=h;obtain⟨a,rfl,w1⟩:=w32 h1;obtain⟨l,rfl,v,hl⟩:=ahb h2;exact⟨2,[a],l,_,rfl,by decide,rfl,fun n=>absurd (.inr rfl) n,rfl,(by show some (KhRooms.Call.cylinder a (nats (iz l)))=_;rw[Ud]),bT w1 dY,v,hl⟩
 |f3 a b c d e f=>
  have h:(whole32 a&&whole32 b&&whole32 c&&whole32 d&&whole32 e&&whole32 f)=true:=h;simp only[Bool.and_eq_true]at h;obtain⟨⟨⟨⟨⟨h1,h2⟩,h3⟩,h4⟩,h5⟩,h6⟩:=h;obtain⟨a,rfl,w1⟩:=w32 h1;obtain⟨b,rfl,w2⟩:=w32 h2;obtain⟨c,rfl,w3⟩:=w32 h3;obtain⟨d,rfl,w4⟩:=w32 h4;obtain⟨e,rfl,w5⟩:=w32 h5;obtain⟨f,rfl,w6⟩:=w32 h6;exact⟨3,[a,b,c,d,e,f],[],_,rfl,by decide,rfl,fun _=>rfl,rfl,rfl,bT w1 (bT w2 (bT w3 (bT w4 (bT w5 (bT w6 dY))))),dY,Nat.zero_le _⟩
 |f4 a b c=>
  have h:(whole32 a&&whole32 b&&whole32 c)=true:=h;simp only[Bool.and_eq_true]at h;obtain⟨⟨h1,h2⟩,h3⟩:=h;obtain⟨a,rfl,w1⟩:=w32 h1;obtain⟨b,rfl,w2⟩:=w32 h2;obtain⟨c,rfl,w3⟩:=w32 h3;exact⟨4,[a,b,c],[],_,rfl,by decide,rfl,fun _=>rfl,rfl,rfl,bT w1 (bT w2 (bT w3 dY)),dY,Nat.zero_le _⟩
 |f5 a b=>
  have h:(whole32 a&&whole32 b)=true:=h;simp only[Bool.and_eq_true]at h;obtain⟨h1,h2⟩:=h;obtain⟨a,rfl,w1⟩:=w32 h1;obtain⟨b,rfl,w2⟩:=w32 h2;exact⟨5,[a,b],[],_,rfl,by decide,rfl,fun _=>rfl,rfl,rfl,bT w1 (bT w2 dY),dY,Nat.zero_le _⟩
 |f6 a=>
  have h:(whole32 a)=true:=h;have h1:=h;obtain⟨a,rfl,w1⟩:=w32 h1;exact⟨6,[a],[],_,rfl,by decide,rfl,fun _=>rfl,rfl,rfl,bT w1 dY,dY,Nat.zero_le _⟩
 |f7=>
  exact⟨7,[],[],_,rfl,by decide,rfl,fun _=>rfl,rfl,rfl,dY,dY,Nat.zero_le _⟩
 |f8 a=>
  have h:(whole32 a)=true:=h;have h1:=h;obtain⟨a,rfl,w1⟩:=w32 h1;exact⟨8,[a],[],_,rfl,by decide,rfl,fun _=>rfl,rfl,rfl,bT w1 dY,dY,Nat.zero_le _⟩
 |f9 a b=>
  have h:(whole32 a&&whole32 b)=true:=h;simp only[Bool.and_eq_true]at h;obtain⟨h1,h2⟩:=h;obtain⟨a,rfl,w1⟩:=w32 h1;obtain⟨b,rfl,w2⟩:=w32 h2;exact⟨9,[a,b],[],_,rfl,by decide,rfl,fun _=>rfl,rfl,rfl,bT w1 (bT w2 dY),dY,Nat.zero_le _⟩
 |f10 a b=>
  have h:(whole32 a&&whole32 b)=true:=h;simp only[Bool.and_eq_true]at h;obtain⟨h1,h2⟩:=h;obtain⟨a,rfl,w1⟩:=w32 h1;obtain⟨b,rfl,w2⟩:=w32 h2;exact⟨10,[a,b],[],_,rfl,by decide,rfl,fun _=>rfl,rfl,rfl,bT w1 (bT w2 dY),dY,Nat.zero_le _⟩
 |f11 a b c=>
  have h:(whole32 a&&whole32 b&&whole32 c)=true:=h;simp only[Bool.and_eq_true]at h;obtain⟨⟨h1,h2⟩,h3⟩:=h;obtain⟨a,rfl,w1⟩:=w32 h1;obtain⟨b,rfl,w2⟩:=w32 h2;obtain⟨c,rfl,w3⟩:=w32 h3;exact⟨11,[a,b,c],[],_,rfl,by decide,rfl,fun _=>rfl,rfl,rfl,bT w1 (bT w2 (bT w3 dY)),dY,Nat.zero_le _⟩
 |f12 a b c d=>
  have h:(whole32 a&&whole32 b&&whole32 c&&whole32 d)=true:=h;simp only[Bool.and_eq_true]at h;obtain⟨⟨⟨h1,h2⟩,h3⟩,h4⟩:=h;obtain⟨a,rfl,w1⟩:=w32 h1;obtain⟨b,rfl,w2⟩:=w32 h2;obtain⟨c,rfl,w3⟩:=w32 h3;obtain⟨d,rfl,w4⟩:=w32 h4;exact⟨12,[a,b,c,d],[],_,rfl,by decide,rfl,fun _=>rfl,rfl,rfl,bT w1 (bT w2 (bT w3 (bT w4 dY))),dY,Nat.zero_le _⟩
 |f13 a b c=>
  have h:(whole32 a&&whole32 b&&whole32 c)=true:=h;simp only[Bool.and_eq_true]at h;obtain⟨⟨h1,h2⟩,h3⟩:=h;obtain⟨a,rfl,w1⟩:=w32 h1;obtain⟨b,rfl,w2⟩:=w32 h2;obtain⟨c,rfl,w3⟩:=w32 h3;exact⟨13,[a,b,c],[],_,rfl,by decide,rfl,fun _=>rfl,rfl,rfl,bT w1 (bT w2 (bT w3 dY)),dY,Nat.zero_le _⟩
 |f14 a b c=>
  have h:(whole32 a&&whole32 b&&whole32 c)=true:=h;simp only[Bool.and_eq_true]at h;obtain⟨⟨h1,h2⟩,h3⟩:=h;obtain⟨a,rfl,w1⟩:=w32 h1;obtain⟨b,rfl,w2⟩:=w32 h2;obtain⟨c,rfl,w3⟩:=w32 h3;exact⟨14,[a,b,c],[],_,rfl,by decide,rfl,fun _=>rfl,rfl,rfl,bT w1 (bT w2 (bT w3 dY)),dY,Nat.zero_le _⟩
 |f15 a b=>
  have h:(whole32 a&&whole32 b)=true:=h;simp only[Bool.and_eq_true]at h;obtain⟨h1,h2⟩:=h;obtain⟨a,rfl,w1⟩:=w32 h1;obtain⟨b,rfl,w2⟩:=w32 h2;exact⟨15,[a,b],[],_,rfl,by decide,rfl,fun _=>rfl,rfl,rfl,bT w1 (bT w2 dY),dY,Nat.zero_le _⟩
 |f16 a b=>
  have h:(whole32 a&&whole32 b)=true:=h;simp only[Bool.and_eq_true]at h;obtain⟨h1,h2⟩:=h;obtain⟨a,rfl,w1⟩:=w32 h1;obtain⟨b,rfl,w2⟩:=w32 h2;exact⟨16,[a,b],[],_,rfl,by decide,rfl,fun _=>rfl,rfl,rfl,bT w1 (bT w2 dY),dY,Nat.zero_le _⟩
 |f17 a=>
  have h:(whole32 a)=true:=h;have h1:=h;obtain⟨a,rfl,w1⟩:=w32 h1;exact⟨17,[a],[],_,rfl,by decide,rfl,fun _=>rfl,rfl,rfl,bT w1 dY,dY,Nat.zero_le _⟩
def after (s:HouseNeutral.S) (cs:List (List (List Int))):HouseNeutral.S:=cs.foldl (fun s c=>(HouseNeutral.step s c).1) s
theorem abZ (s:HouseNeutral.S) (cs:List (List (List Int))) (c:List (List Int)):after s (cs++[c])=(HouseNeutral.step (after s cs) c).1:=by
 unfold after;rw[List.foldl_append];rfl
theorem CG:∀(cs:List (List (List Int))) (s:HouseNeutral.S) (c:List (List Int)),PyFlat.played HouseNeutral.step s (cs++[c])=PyFlat.played HouseNeutral.step s cs++[(HouseNeutral.step (after s cs) c).2]
 |[],s,c=>rfl
 |d::cs,s,c=>by
  show(HouseNeutral.step s d).2::PyFlat.played HouseNeutral.step (HouseNeutral.step s d).1 (cs++[c])=_;rw[CG cs];rfl
theorem Ue (l:List (List Int)) (a:List Int):PyFlat.told (l++[a])=PyFlat.told l++((a.length:Int)::a):=by
 unfold PyFlat.told;rw[List.flatMap_append];simp
theorem take_snoc {α:Type}:∀{l:List α}{i:Nat}{x:α},l[i]?=some x→l.take (i+1)=l.take i++[x]
 |[],i,x,h=>by simp at h
 |a::l,0,x,h=>by
  have e:a=x:=Option.some.inj h;subst e;rfl
 |a::l,i+1,x,h=>by
  have ih:=take_snoc (l:=l) (i:=i) (x:=x) h;show a::l.take (i+1)=a::l.take i++[x];rw[ih];rfl
theorem YM:∀(cs:List (List (List Int))) (c:List (List Int)),PyFlat.put (cs++[c])=PyFlat.put cs++PyFlat.put1 c
 |[],c=>by
  show PyFlat.put1 c++[]=[]++PyFlat.put1 c;simp
 |d::cs,c=>by
  show PyFlat.put1 d++PyFlat.put (cs++[c])=(PyFlat.put1 d++PyFlat.put cs)++PyFlat.put1 c;rw[YM cs c,List.append_assoc]
theorem Ug:∀(cs ds:List (List (List Int))),PyFlat.put (cs++ds)=PyFlat.put cs++PyFlat.put ds
 |[],ds=>rfl
 |d::cs,ds=>by
  show PyFlat.put1 d++PyFlat.put (cs++ds)=(PyFlat.put1 d++PyFlat.put cs)++PyFlat.put ds;rw[Ug cs ds,List.append_assoc]
theorem Asks.put {c:List (List Int)}{p:Nat}{a row:List Nat}{x:KhRooms.Call}(h:Asks c p a row x):PyFlat.put1 c=((p:Int)::iz a)++(if p=1∨p=2 then((row.length:Int)::iz row)else[]):=by
 rw[h.form];show((p:Int)::iz a)++PyFlat.putRows (if p=1∨p=2 then[iz row]else[])=_;by_cases e:p=1∨p=2
 ·rw[if_pos e,if_pos e]
  show _++(PyFlat.putRow (iz row)++[])=_;rw[List.append_nil];show _++(((iz row).length:Int)::iz row)=_;rw[show(iz row).length=row.length from List.length_map _]
 ·rw[if_neg e,if_neg e]
  rfl
end Kd
end
section
namespace Kd
open Kh KhRooms
theorem ahd {l:List Nat}{n:Nat}(h:jX l) (hl:∀x∈l,x<n):l.length≤n:=by
 have:=(iu h).length_le_of_subset (l₂:=List.range n) fun x m=>List.mem_range.mpr (hl x m)
 rwa [List.length_range]at this
theorem bB (n:Nat) (p:Nat→Bool):((List.range n).filter p).length≤n:=by
 have:=List.length_filter_le p (List.range n)
 rwa [List.length_range]at this
theorem dZ (k m:Nat):jX (bunchOf k m):=dB _ (eE _)
theorem Gg {k m x:Nat}(h:x∈bunchOf k m):x<k:=List.mem_range.mp (List.mem_filter.mp h).1
theorem dD {k m x:Nat}:x∈bunchOf k m↔x<k∧m.testBit x=true:=by
 unfold bunchOf;rw[List.mem_filter,List.mem_range]
theorem jz (k m:Nat):(bunchOf k m).length≤k:=bB _ _
theorem ou {l:List Nat}:(HouseNeutral.told (tells l)).length=l.length+1:=by
 unfold HouseNeutral.told tells;simp
theorem iQ {h:House}{b:Nat}{rooms:List Nat}{f:Bunch→Answer}{n:Nat}(h1:1≤n) (hf:b<2^h.keys.length→(∀r∈rooms,r<h.rooms)→(HouseNeutral.told (f (bunchOf h.keys.length b))).length≤n):(HouseNeutral.told (ofBunch h b rooms f)).length≤n:=by
 unfold ofBunch bunch;by_cases c:b<2^h.keys.length
 ·rw[if_pos c]
  show(HouseNeutral.told (if rooms.any (fun(r:Nat)=>decide (h.rooms≤r))=true then says (-4)else f _)).length≤n
  split
  ·exact h1
  ·rename_i c2
   refine hf c fun r m=>?_
   apply Classical.byContradiction;intro hn;exact c2 (List.any_eq_true.mpr ⟨r,m,decide_eq_true (by omega)⟩)
 ·rw[if_neg c]
  exact h1
theorem adY (h:House) (s:Nat):(h.opens s).length≤h.keys.length:=by
 unfold House.opens
 split
 ·split
  ·exact bB _ _
  ·exact Nat.zero_le _
 ·exact Nat.zero_le _
theorem ahe {h:House}{b:Bunch}{r t:Nat}{l:List Nat}(e:h.way b r t=some l):l.length≤h.rooms:=by
 unfold House.way at e;cases q:(List.range h.rooms).find? fun(n:Nat)=>(h.near b t n).contains r with
 |none=>rw[q]at e;cases e
 |some n=>
  have q1:=(vq q).1;rw[q]at e;have e':h.walkIn b t n r=l:=Option.some.inj e;rw[←e'];have:∀(n r:Nat),(h.walkIn b t n r).length≤n:=by
   intro n
   induction n with
   |zero=>intro r;exact Nat.le_refl _
   |succ n ih=>
    intro r;unfold House.walkIn
    split
    ·rw[List.length_cons]
     exact Nat.succ_le_succ (ih _)
    ·exact Nat.zero_le _
  exact Nat.le_trans (this n r) (Nat.le_of_lt q1)
theorem adZ {h:House}{l c:Bunch}{r t:Nat}{back:Bool}(hl:jX l) (e:h.small l r t back=some c):c.length≤l.length:=by
 unfold House.small at e
 split at e
 ·cases e
 ·exact(Qs hl e).sub.length_le
theorem ab0 {h:House}{cb:List (Nat×List Nat)}{hg:List (Nat×Nat)}(I:bV h cb hg) (x:KhRooms.Call):(HouseNeutral.told (answer h x)).length≤60:=by
 have hk:=I.nk;have hd:=I.nd;have hr:=I.rooms.2;cases x<;>try exact(by decide:1≤60)
 case counts=>show 5≤60;decide
 case opens s=>
  show(HouseNeutral.told (if 2*h.doors.length≤s then says (-4)else tells (h.opens s))).length≤60
  split
  ·decide
  ·rw[ou]
   have:=adY h s;omega
 case leads b r=>
  refine iQ (by decide) fun _ hm=>?_
  rw[ou];have key:=uW I.doors (bunchOf h.keys.length b) (hm r (List.mem_singleton.mpr rfl));have:=ahd key.1 fun t m=>HB I.doors (hm r (List.mem_singleton.mpr rfl)) ((key.2 t).mp m)
  omega
 case found b r=>
  refine iQ (by decide) fun _ hm=>?_
  show(_::((h.foundRooms (bunchOf h.keys.length b) r++h.foundKeys (bunchOf h.keys.length b) r).map _)).length≤60;rw[List.length_cons,List.length_map,List.length_append];have h1:(h.foundRooms (bunchOf h.keys.length b) r).length≤h.rooms:=bB _ _;have h2:(h.foundKeys (bunchOf h.keys.length b) r).length≤h.keys.length:=bB _ _;omega
 case way b r t=>
  refine iQ (by decide) fun _ hm=>?_
  show(HouseNeutral.told (match h.way (bunchOf h.keys.length b) r t with|none=>says (-3)|some l=>tells l)).length≤60;cases e:h.way (bunchOf h.keys.length b) r t with
  |none=>decide
  |some l=>
   show(HouseNeutral.told (tells l)).length≤60;rw[ou];have:=ahe e;omega
 case small b r t k=>
  show(HouseNeutral.told (if 1<k then says (-1)else _)).length≤60
  split
  ·decide
  ·refine iQ (by decide) fun _ hm=>?_
   show(HouseNeutral.told (match h.small (bunchOf h.keys.length b) r t (k==1)with|none=>says (-3)|some l=>tells l)).length≤60;cases e:h.small (bunchOf h.keys.length b) r t (k==1)with
   |none=>decide
   |some l=>
    show(HouseNeutral.told (tells l)).length≤60;rw[ou];have:=adZ (dZ _ _) e;have:=jz h.keys.length b;omega
 case needed b r t=>
  refine iQ (by decide) fun _ hm=>?_
  split
  ·decide
  ·rw[ou]
   have h1:(h.needed (bunchOf h.keys.length b) r t).length≤(bunchOf h.keys.length b).length:=List.length_filter_le _ _;have:=jz h.keys.length b;omega
 case through b r t=>
  refine iQ (by decide) fun _ hm=>?_
  split
  ·decide
  ·rw[ou]
   have h1:(h.through (bunchOf h.keys.length b) r t).length≤2*h.doors.length:=bB _ _;omega
 case traps b r=>
  refine iQ (by decide) fun _ hm=>?_
  rw[ou];have h1:(h.traps (bunchOf h.keys.length b) r).length≤2*h.doors.length:=bB _ _;omega
 case shut b t=>
  refine iQ (by decide) fun _ hm=>?_
  rw[ou];have h1:(h.shutOff (bunchOf h.keys.length b) t).length≤h.rooms:=bB _ _;omega
 case parts b=>
  refine iQ (by decide) fun _ hm=>?_
  show(_::(((List.range h.rooms).map (h.part (bunchOf h.keys.length b))).map _)).length≤60;rw[List.length_cons,List.length_map,List.length_map,List.length_range];omega
end Kd
end
section
namespace Kd
open Kh
structure Pg where
 side:Nat
 behind:Nat
 free:Bool
 turners:Nat
def xX (m:Nat) (p:Pg):Bool:=p.free|| !decide (p.turners&&&m=0)
structure Rep (h:House) (pb:List (List Pg)):Prop where
 len:pb.length=h.rooms
 Wo:∀(r:Nat) ps,pb[r]?=some ps→(ps.map Pg.side).Pairwise (·<·)
 row:∀(r:Nat) ps,pb[r]?=some ps→∀p∈ps,p.side<2*h.doors.length∧h.before p.side=r∧h.behind p.side=p.behind∧∀m,xX m p=h.passes (bunchOf h.keys.length m) p.side
 all:∀(r:Nat) ps,pb[r]?=some ps→∀s,s<2*h.doors.length→h.before s=r→(∃p∈ps,p.side=s)∨∀c,h.passes c s=false
theorem Wq {a b c:List Nat}(h:Before a b) (k:Before b c):Before a c:=by
 rcases h with h|⟨e,h⟩
 ·rcases k with k|⟨e',k⟩
  ·exact .inl (by omega)
  ·exact .inl (by omega)
 ·rcases k with k|⟨e',k⟩
  ·exact .inl (by omega)
  ·exact .inr ⟨by omega,Li h k⟩
theorem Gh {a b:List Nat}(h:Before a b):a.length≤b.length:=by
 rcases h with h|⟨e,h⟩<;>omega
theorem Qw {s t:Nat}:∀{a b:List Nat},a.length=b.length→lexLe a b→(a=b→s≤t)→lexLe (a++[s]) (b++[t])
 |[],[],_,_,h=>by
  have:=h rfl;rcases Nat.lt_or_ge s t with g|g
  ·exact .inl g
  ·exact .inr ⟨by omega,trivial⟩
 |[],_::_,e,_,_=>by simp at e
 |_::_,[],e,_,_=>by simp at e
 |x::a,y::b,e,h,k=>by
  rcases h with h|⟨e',h⟩
  ·exact .inl h
  ·refine .inr ⟨e',Qw (by simpa using e) h fun q=>k (by rw[e',q])⟩
theorem CJ {s t:Nat}{a b:List Nat}(h:Before a b) (k:a=b→s≤t):Before (a++[s]) (b++[t]):=by
 rcases h with h|⟨e,h⟩
 ·exact .inl (by simp;omega)
 ·exact .inr ⟨by simp[e],Qw e h k⟩
theorem Uh {a b:List Nat}{t:Nat}(h:Before a b):Before a (b++[t]):= .inl (by have:=Gh h;simp;omega)
theorem Ui {h:House}{b:Bunch}{r t:Nat}{l:List Nat}(w:Walk h b r l t):(l=[]∧r=t)∨∃m s,l=m++[s]∧Walk h b r m (h.before s)∧s<2*h.doors.length∧h.passes b s=true∧h.behind s=t:=by
 rcases List.eq_nil_or_concat l with e|⟨m,s,e⟩
 ·subst e
  exact .inl ⟨rfl,w⟩
 ·right
  rw[e,List.concat_eq_append]at w;obtain⟨x,w1,w2⟩:=Walk.split w;obtain⟨h1,h2,h3,h4⟩:=w2;exact⟨m,s,by simpa using e,by rw[h3];exact w1,h1,h2,h4⟩
abbrev Ws:=List (Nat×List Nat)
structure um (h:House) (c:Bunch) (r i:Nat) (ps:List Pg) (ws:Ws):Prop where
 start:ws[0]?=some (r,[])
 nd:(ws.map (·.1)).Nodup
 lt:∀q∈ws,q.1<h.rooms
 first:∀q∈ws,First h c r q.1 q.2
 Wo:(ws.map (·.2)).Pairwise Before
 closed:∀(j:Nat) q,j<i→ws[j]?=some q→∀s,s<2*h.doors.length→h.passes c s=true→h.before s=q.1→h.behind s∈ws.map (·.1)
 prev:∀(j:Nat) q,ws[j]?=some q→j=0∨∃(k:Nat) (qk:Nat×List Nat) (s:Nat),ws[k]?=some qk∧q.2=qk.2++[s]∧(k<i∨(k=i∧∃p∈ps,p.side=s))
 row:∀p∈ps,h.passes c p.side=true→h.behind p.side∈ws.map (·.1)
theorem ad0 {h:House}{c:Bunch}{r:Nat}(hr:r<h.rooms):um h c r 0 [] [(r,[])] where
 start:=rfl
 nd:=by simp
 lt:=fun q m=>by rw[List.mem_singleton]at m;subst m;exact hr
 first:=fun q m=>by
  rw[List.mem_singleton]at m;subst m;refine⟨rfl,fun l' w=>?_⟩;cases l' with
  |nil=>exact o9 _
  |cons a l'=>exact .inl (by simp)
 Wo:=by simp
 closed:=fun j q hj=>by omega
 prev:=fun j q e=>by
  cases j with
  |zero=>exact .inl rfl
  |succ j=>simp at e
 row:=fun p m=>by cases m
section
variable {h:House}{c:Bunch}{r i:Nat}{ps:List Pg}{ws:Ws}
theorem um.sortedAt (B:um h c r i ps ws){j k:Nat}{q u:Nat×List Nat}(hj:ws[j]?=some q) (hk:ws[k]?=some u) (hjk:j≤k):Before q.2 u.2:=by
 rcases Nat.lt_or_ge j k with l|l
 ·have e1:(ws.map (·.2))[j]?=some q.2:=by rw[List.getElem?_map,hj];rfl
  have e2:(ws.map (·.2))[k]?=some u.2:=by rw[List.getElem?_map,hk];rfl
  obtain⟨l1,g1⟩:=List.getElem?_eq_some_iff.mp e1;obtain⟨l2,g2⟩:=List.getElem?_eq_some_iff.mp e2;have:=List.pairwise_iff_getElem.mp B.Wo j k l1 l2 l;rw[g1,g2]at this;exact this
 ·have:j=k:=by omega
  subst this;rw[hj]at hk;cases hk;exact o9 _
theorem um.ahead (B:um h c r i ps ws){q:Nat×List Nat}(hq:ws[i]?=some q):∀(n:Nat) (l:List Nat) (x:Nat),l.length=n→Walk h c r l x→(∀(j:Nat) u,j<i→ws[j]?=some u→u.1≠x)→Before q.2 l:=by
 intro n
 induction n with
 |zero=>
  intro l x hl w hx;by_cases c0:i=0
  ·subst c0
   rw[B.start]at hq;cases hq;have:l=[]:=List.length_eq_zero_iff.mp hl;subst this;exact o9 _
  ·have:l=[]:=List.length_eq_zero_iff.mp hl
   subst this;exact absurd (show r=x from w) (hx 0 _ (by omega) B.start)
 |succ n ih=>
  intro l x hl w hx;by_cases mx:x∈ws.map (·.1)
  ·obtain⟨u,mu,eu⟩:=List.mem_map.mp mx
   obtain⟨j,hj⟩:=List.mem_iff_getElem?.mp mu;have hij:i≤j:=by
    apply Classical.byContradiction;intro g;exact hx j u (by omega) hj eu
   have f:=B.first u mu;rw[eu]at f;exact Wq (B.sortedAt hq hj hij) (f.first l w)
  ·rcases Ui w with⟨e,_⟩|⟨m,s,e,w1,h1,h2,h3⟩
   ·rw[e]at hl
    simp at hl
   ·rw[e]at hl⊢
    refine Uh (ih m (h.before s) (by simpa using hl) w1 fun j u hj hu eu=>mx ?_);rw[←h3];exact B.closed j u hj hu s h1 h2 eu.symm
theorem um.put (hd:cQ h) (B:um h c r i ps ws){q:Nat×List Nat}(hq:ws[i]?=some q){p:Pg}(h1:p.side<2*h.doors.length) (h2:h.before p.side=q.1) (h3:h.behind p.side=p.behind) (h4:h.passes c p.side=true)
  (hs:∀p'∈ps,p'.side<p.side) (hall:∀s,s<p.side→h.before s=q.1→h.passes c s=true→∃p'∈ps,p'.side=s) (hn:p.behind∉ws.map (·.1)):um h c r i (ps++[p]) (ws++[(p.behind,q.2++[p.side])]):=by
 have hlen:i<ws.length:=(List.getElem?_eq_some_iff.mp hq).1;have mq:=List.mem_of_getElem? hq;have fq:=B.first q mq;have akk:Walk h c r (q.2++[p.side]) p.behind:=by
  rw[←h3];exact Walk.snoc h1 h4 (by rw[h2];exact fq.walk)
 have app:∀{j:Nat}{u:Nat×List Nat},(ws++[(p.behind,q.2++[p.side])])[j]?=some u→ws[j]?=some u∨(j=ws.length∧u=(p.behind,q.2++[p.side])):=by
  intro j u e;by_cases lj:j<ws.length
  ·rw[List.getElem?_append_left lj]at e
   exact .inl e
  ·rw[List.getElem?_append_right (by omega)]at e
   by_cases z:j-ws.length=0
   ·rw[z]at e
    exact .inr ⟨by omega,(Option.some.inj e).symm⟩
   ·rw[List.getElem?_eq_none (by simp;omega)]at e
    cases e
 have up:∀{j:Nat}{u:Nat×List Nat},ws[j]?=some u→(ws++[(p.behind,q.2++[p.side])])[j]?=some u:=by
  intro j u e;rw[List.getElem?_append_left (List.getElem?_eq_some_iff.mp e).1];exact e
 refine⟨up B.start,?_,?_,?_,?_,?_,?_,?_⟩
 ·rw[List.map_append,List.nodup_append]
  refine⟨B.nd,by simp,fun a ma b mb e=>hn ?_⟩;simp at mb;rw[←mb,←e];exact ma
 ·intro u mu
  rcases List.mem_append.mp mu with mu|mu
  ·exact B.lt u mu
  ·rw[List.mem_singleton]at mu
   subst mu;show p.behind<h.rooms;rw[←h3];exact rB hd h1
 ·intro u mu
  rcases List.mem_append.mp mu with mu|mu
  ·exact B.first u mu
  ·rw[List.mem_singleton]at mu
   subst mu;refine⟨akk,fun l' w=>?_⟩;rcases Ui w with⟨e,er⟩|⟨m,s,e,w1,g1,g2,g3⟩
   ·exfalso
    refine hn (List.mem_map.mpr ⟨(r,[]),List.mem_of_getElem? B.start,er⟩)
   ·subst e
    have akl:∀(j:Nat) u,j<i→ws[j]?=some u→u.1≠h.before s:=fun j u hj hu eu=>hn (by
     rw[←show h.behind s=p.behind from g3];exact B.closed j u hj hu s g1 g2 eu.symm)
    have bf:=B.ahead hq m.length m (h.before s) rfl w1 akl;refine CJ bf fun em=>?_
    -- the same walk:then the same room
    apply Classical.byContradiction;intro g;have eb:h.before s=q.1:=by
     have w2:=fq.walk;rw[em]at w2;have det:∀(l:List Nat) (a x y:Nat),Walk h c a l x→Walk h c a l y→x=y:=by
      intro l
      induction l with
      |nil=>intro a x y e1 e2;exact(show a=x from e1).symm.trans e2
      |cons t l ih=>intro a x y e1 e2;exact ih _ _ _ e1.2.2.2 e2.2.2.2
     exact det _ _ _ _ w1 w2
    obtain⟨p',mp,ep⟩:=hall s (by omega) eb g2;refine hn ?_;have:=B.row p' mp (by rw[ep];exact g2);rw[ep]at this;rw[←show h.behind s=p.behind from g3];exact this
 ·rw[List.map_append,List.pairwise_append]
  refine⟨B.Wo,by simp,fun a ma b mb=>?_⟩;simp at mb;subst mb;obtain⟨u,mu,eu⟩:=List.mem_map.mp ma;obtain⟨j,hj⟩:=List.mem_iff_getElem?.mp mu;rw[←eu];rcases B.prev j u hj with e|⟨k,qk,s,hk,ek,g⟩
  ·subst e
   rw[B.start]at hj;cases hj;exact .inl (by simp)
  ·rw[ek]
   rcases g with g|⟨g,p',mp,ep⟩
   ·refine CJ (B.sortedAt hk hq (by omega)) fun e=>?_
    -- two rooms with one walk
    exfalso;have w1:=(B.first qk (List.mem_of_getElem? hk)).walk;have w2:=fq.walk;rw[e]at w1;have det:∀(l:List Nat) (a x y:Nat),Walk h c a l x→Walk h c a l y→x=y:=by
     intro l
     induction l with
     |nil=>intro a x y e1 e2;exact(show a=x from e1).symm.trans e2
     |cons t l ih=>intro a x y e1 e2;exact ih _ _ _ e1.2.2.2 e2.2.2.2
    have e1:=det _ _ _ _ w1 w2;have n1:(ws.map (·.1))[k]?=some qk.1:=by rw[List.getElem?_map,hk];rfl
    have n2:(ws.map (·.1))[i]?=some q.1:=by rw[List.getElem?_map,hq];rfl
    obtain⟨l1,g1⟩:=List.getElem?_eq_some_iff.mp n1;obtain⟨l2,g2⟩:=List.getElem?_eq_some_iff.mp n2;have:=List.pairwise_iff_getElem.mp B.nd k i l1 l2 g;rw[g1,g2]at this;exact this e1
   ·subst g
    rw[hq]at hk;cases hk;refine CJ (o9 _) fun _=>?_
    rw[←ep];exact Nat.le_of_lt (hs p' mp)
 ·intro j u hj hu s g1 g2 g3
  rcases app hu with hu|⟨e,_⟩
  ·rw[List.map_append]
   exact List.mem_append_left _ (B.closed j u hj hu s g1 g2 g3)
  ·omega
 ·intro j u hu
  rcases app hu with hu|⟨e,eu⟩
  ·rcases B.prev j u hu with e|⟨k,qk,s,hk,ek,g⟩
   ·exact .inl e
   ·refine .inr ⟨k,qk,s,up hk,ek,?_⟩
    rcases g with g|⟨g,p',mp,ep⟩
    ·exact .inl g
    ·exact .inr ⟨g,p',List.mem_append_left _ mp,ep⟩
  ·subst eu
   exact .inr ⟨i,q,p.side,up hq,rfl, .inr ⟨rfl,p,by simp,rfl⟩⟩
 ·intro p' mp g
  rw[List.map_append];rcases List.mem_append.mp mp with mp|mp
  ·exact List.mem_append_left _ (B.row p' mp g)
  ·rw[List.mem_singleton]at mp
   subst mp;rw[h3];simp
theorem um.pass (B:um h c r i ps ws){p:Pg}(hn:h.passes c p.side=true→h.behind p.side∈ws.map (·.1)):um h c r i (ps++[p]) ws:=
 ⟨B.start,B.nd,B.lt,B.first,B.Wo,B.closed,fun j u hu=>by
  rcases B.prev j u hu with e|⟨k,qk,s,hk,ek,g⟩
  ·exact .inl e
  ·refine .inr ⟨k,qk,s,hk,ek,?_⟩
   rcases g with g|⟨g,p',mp,ep⟩
   ·exact .inl g
   ·exact .inr ⟨g,p',List.mem_append_left _ mp,ep⟩,fun p' mp g=>by
  rcases List.mem_append.mp mp with mp|mp
  ·exact B.row p' mp g
  ·rw[List.mem_singleton]at mp
   subst mp;exact hn g⟩
theorem um.next (B:um h c r i ps ws){q:Nat×List Nat}(hq:ws[i]?=some q) (hall:∀s,s<2*h.doors.length→h.before s=q.1→h.passes c s=true→∃p'∈ps,p'.side=s):um h c r (i+1) [] ws:=
 ⟨B.start,B.nd,B.lt,B.first,B.Wo,fun j u hj hu s g1 g2 g3=>by
  by_cases e:j=i
  ·subst e
   rw[hq]at hu;cases hu;obtain⟨p',mp,ep⟩:=hall s g1 g3 g2;have:=B.row p' mp (by rw[ep];exact g2);rw[ep]at this;exact this
  ·exact B.closed j u (by omega) hu s g1 g2 g3,fun j u hu=>by
  rcases B.prev j u hu with e|⟨k,qk,s,hk,ek,g⟩
  ·exact .inl e
  ·refine .inr ⟨k,qk,s,hk,ek, .inl ?_⟩
   rcases g with g|⟨g,_⟩<;>omega,fun p' mp=>by cases mp⟩
theorem um.size (B:um h c r i ps ws):ws.length≤h.rooms:=by
 have:=B.nd.length_le_of_subset (l₂:=List.range h.rooms) fun x m=>by
  obtain⟨q,mq,e⟩:=List.mem_map.mp m;rw[List.mem_range,←e];exact B.lt q mq
 simpa using this
theorem um.done (B:um h c r i ps ws) (hi:ws.length≤i) (t:Nat):t∈ws.map (·.1)↔Reach (Eu h c) r t:=by
 constructor
 ·intro m
  obtain⟨q,mq,e⟩:=List.mem_map.mp m;rw[←e];exact rK (B.first q mq).walk
 ·intro a
  refine Reach.closed (P:=fun t=>t∈ws.map (·.1)) a (List.mem_map.mpr ⟨(r,[]),List.mem_of_getElem? B.start,rfl⟩) fun x y mx e=>?_
  obtain⟨q,mq,eq⟩:=List.mem_map.mp mx;obtain⟨j,hj⟩:=List.mem_iff_getElem?.mp mq;obtain⟨s,g1,g2,g3,g4⟩:=e;rw[←g4];exact B.closed j q (by have:=(List.getElem?_eq_some_iff.mp hj).1;omega) hj s g1 g2 (g3.trans eq.symm)
end
structure Found (h:House) (c:Bunch) (r:Nat) (ws:Ws):Prop where
 nd:(ws.map (·.1)).Nodup
 lt:∀q∈ws,q.1<h.rooms
 mem:∀t,t∈ws.map (·.1)↔Reach (Eu h c) r t
 first:∀q∈ws,First h c r q.1 q.2
theorem Found.size {h:House}{c:Bunch}{r:Nat}{ws:Ws}(F:Found h c r ws):ws.length≤h.rooms:=by
 have:=F.nd.length_le_of_subset (l₂:=List.range h.rooms) fun x m=>by
  obtain⟨q,mq,e⟩:=List.mem_map.mp m;rw[List.mem_range,←e];exact F.lt q mq
 simpa using this
theorem Found.leads {h:House}{c:Bunch}{r t:Nat}{ws:Ws}(F:Found h c r ws) (hd:cQ h) (hr:r<h.rooms):decide (t∈ws.map (·.1))=h.leads c r t:=by
 rw[Bool.eq_iff_iff,decide_eq_true_iff,F.mem,iw hd hr]
def mW (pb:List (List Pg)) (x:Nat):List (List Pg):=pb.map fun ps=>ps.filter fun p=> !decide (p.side=x)
theorem Uj (h:House) (x:Nat):(h.without x).keys=h.keys:=rfl
theorem Rep.drop {h:House}{pb:List (List Pg)}(R:Rep h pb){x:Nat}(hx:x<2*h.doors.length):Rep (h.without x) (mW pb x):=by
 have get:∀{r:Nat}{ps:List Pg},(mW pb x)[r]?=some ps→∃qs,pb[r]?=some qs∧ps=qs.filter fun p=> !decide (p.side=x):=by
  intro r ps e;unfold mW at e;rw[List.getElem?_map]at e;obtain⟨qs,e1,e2⟩:=Option.map_eq_some_iff.mp e;exact⟨qs,e1,e2.symm⟩
 refine⟨by unfold mW;rw[List.length_map,R.len,xW],fun r ps e=>?_,fun r ps e p mp=>?_,fun r ps e s hs hb=>?_⟩
 ·obtain⟨qs,e1,e2⟩:=get e
  rw[e2];exact(R.Wo r qs e1).sublist (List.filter_sublist.map _)
 ·obtain⟨qs,e1,e2⟩:=get e
  rw[e2,List.mem_filter]at mp;obtain⟨h1,h2,h3,h4⟩:=R.row r qs e1 p mp.1;have nx:p.side≠x:=by simpa using mp.2
  refine⟨by rw[wK];exact h1,by rw[vQ];exact h2,by rw[Ew];exact h3,fun m=>?_⟩;rw[qF h _ hx,Uj,h4 m];simp[nx]
 ·obtain⟨qs,e1,e2⟩:=get e
  rw[wK]at hs;rw[vQ]at hb;by_cases es:s=x
  ·right
   intro c;rw[qF h _ hx,es];simp
  ·rcases R.all r qs e1 s hs hb with⟨p,mp,ep⟩|g
   ·refine .inl ⟨p,?_,ep⟩
    rw[e2,List.mem_filter];exact⟨mp,by rw[ep];simpa using es⟩
   ·right
    intro c;rw[qF h _ hx,g c];simp
end Kd
end
section
namespace Kd
open Kh
def gF (l:List Nat):Nat:=(l.map fun n=>2^n).sum
theorem ZS (a b:List Nat):gF (a++b)=gF a+gF b:=by
 unfold gF;rw[List.map_append,List.sum_append]
def zU (f:Nat→Bool) (n:Nat):Nat:=gF ((List.range n).filter f)
theorem Qx (f:Nat→Bool) (n:Nat):zU f (n+1)=zU f n+(if f n=true then 2^n else 0):=by
 unfold zU;rw[List.range_succ,List.filter_append,ZS,List.filter_cons,List.filter_nil]
 split<;>simp[gF]
theorem N7 (f:Nat→Bool):∀n,zU f n<2^n
 |0=>by simp[zU,gF]
 |n+1=>by
  have:=N7 f n;rw[Qx,Nat.pow_succ]
  split<;>omega
theorem oA (f:Nat→Bool):∀n k,(zU f n).testBit k=(decide (k<n)&&f k)
 |0,k=>by simp[zU,gF]
 |n+1,k=>by
  have hl:=N7 f n;have ih:=oA f n k;rw[Qx];by_cases c:f n=true
  ·rw[if_pos c]
   rcases Nat.lt_trichotomy k n with g|g|g
   ·rw[Nat.add_comm,Nat.testBit_two_pow_add_gt g,ih]
    simp[g,show k<n+1 by omega]
   ·subst g
    rw[Nat.add_comm,Nat.testBit_two_pow_add_eq,ih];simp[c]
   ·have e:(zU f n+2^n).testBit k=false:=by
     apply Nat.testBit_lt_two_pow;have:2^(n+1)≤2^k:=Nat.pow_le_pow_right (by decide) g;rw[Nat.pow_succ]at this;omega
    rw[e];simp[show¬k<n+1 by omega]
  ·rw[if_neg c,Nat.add_zero,ih]
   by_cases e:k=n
   ·subst e
    simp[c]
   ·simp[show(k<n+1)=(k<n) by simp;omega]
theorem ZV {a b:Nat}:a&&&b≠0↔∃k,a.testBit k=true∧b.testBit k=true:=by
 constructor
 ·intro h
  obtain⟨k,hk⟩:=Nat.exists_testBit_of_ne_zero h;rw[Nat.testBit_and,Bool.and_eq_true]at hk;exact⟨k,hk⟩
 ·rintro⟨k,h1,h2⟩ e
  have:(a&&&b).testBit k=true:=by rw[Nat.testBit_and,h1,h2];rfl
  rw[e]at this;simp at this
def Jc (h:House) (s:Nat):Pg:={side:=s,behind:=h.behind s,free:=match h.side s with|some .free=>true|_=>false,turners:=gF (h.opens s)}
theorem Wr (h:House) (s:Nat):∃f:Nat→Bool,h.opens s=(List.range h.keys.length).filter f:=by
 unfold House.opens
 split
 ·split
  ·exact⟨_,rfl⟩
  ·exact⟨fun _=>false,by simp⟩
 ·exact⟨fun _=>false,by simp⟩
theorem ahf (h:House) (s m:Nat):xX m (Jc h s)=h.passes (bunchOf h.keys.length m) s:=by
 obtain⟨f,ef⟩:=Wr h s;have key:(!decide (gF (h.opens s)&&&m=0))=(h.opens s).any (bunchOf h.keys.length m).contains:=by
  rw[Bool.eq_iff_iff,Bool.not_eq_true',decide_eq_false_iff_not,List.any_eq_true,ef];show(zU f h.keys.length&&&m≠0)↔_;rw[ZV];constructor
  ·rintro⟨k,h1,h2⟩
   rw[oA,Bool.and_eq_true,decide_eq_true_iff]at h1;exact⟨k,List.mem_filter.mpr ⟨List.mem_range.mpr h1.1,h1.2⟩,by rw[List.contains_iff_mem,dD];exact⟨h1.1,h2⟩⟩
  ·rintro⟨k,h1,h2⟩
   rw[List.contains_iff_mem,dD]at h2;have h1:=List.mem_filter.mp h1;exact⟨k,by rw[oA,h1.2];simp[h2.1],h2.2⟩
 unfold xX House.passes;show((match h.side s with|some .free=>true|_=>false)|| !decide (gF (h.opens s)&&&m=0))=_;rw[key];cases e:h.side s with
 |none=>
  have:h.opens s=[]:=by unfold House.opens;rw[e]
  rw[this];rfl
 |some x=>
  cases x with
  |free=>rfl
  |locked c=>rfl
  |shut=>
   have:h.opens s=[]:=by unfold House.opens;rw[e]
   rw[this];rfl
def rows (h:House) (n:Nat):List (List Pg):=(List.range h.rooms).map fun r=>((List.range n).filter fun s=>h.before s==r).map (Jc h)
theorem afK (h:House):Rep h (rows h (2*h.doors.length)):=by
 have get:∀{r:Nat}{ps:List Pg},(rows h (2*h.doors.length))[r]?=some ps→ps=((List.range (2*h.doors.length)).filter fun s=>h.before s==r).map (Jc h):=by
  intro r ps e;unfold rows at e;rw[List.getElem?_map]at e;obtain⟨x,e1,e2⟩:=Option.map_eq_some_iff.mp e;have:x=r:=by
   have h1:=(List.getElem?_eq_some_iff.mp e1).1;rw[List.length_range]at h1;rw[List.getElem?_range h1]at e1;exact(Option.some.inj e1).symm
  subst this;exact e2.symm
 refine⟨by unfold rows;simp,fun r ps e=>?_,fun r ps e p mp=>?_,fun r ps e s hs hb=>?_⟩
 ·rw[get e,List.map_map]
  have:(Pg.side∘Jc h)=id:=rfl;rw[this,List.map_id];exact dB _ (eE _)
 ·rw[get e]at mp
  obtain⟨s,ms,es⟩:=List.mem_map.mp mp;subst es;rw[List.mem_filter,List.mem_range]at ms;exact⟨ms.1,(by simpa using ms.2:h.before s=r),rfl,fun m=>ahf h s m⟩
 ·left
  refine⟨Jc h s,?_,rfl⟩;rw[get e];exact List.mem_map.mpr ⟨s,List.mem_filter.mpr ⟨List.mem_range.mpr hs,by simpa using hb⟩,rfl⟩
theorem qb {K b:Nat}(hK:K≤8) (hb:b<2^K):bunchOf 8 b=bunchOf K b:=by
 refine oh (dZ _ _) (dZ _ _) fun x=>?_
 rw[dD,dD];constructor
 ·rintro⟨h1,h2⟩
  refine⟨?_,h2⟩;apply Classical.byContradiction;intro g;have:b.testBit x=false:=Nat.testBit_lt_two_pow (Nat.lt_of_lt_of_le hb (Nat.pow_le_pow_right (by decide) (by omega)));rw[this]at h2;cases h2
 ·rintro⟨h1,h2⟩
  exact⟨by omega,h2⟩
theorem ZW {K a b:Nat}(ha:a<2^K) (hb:b<2^K) (e:bunchOf K a=bunchOf K b):a=b:=by
 apply Nat.eq_of_testBit_eq;intro i;by_cases c:i<K
 ·have:=congrArg (fun l=>decide (i∈l)) e
  simp only[dD]at this;simpa[c]using this
 ·rw[Nat.testBit_lt_two_pow (Nat.lt_of_lt_of_le ha (Nat.pow_le_pow_right (by decide) (by omega))),Nat.testBit_lt_two_pow (Nat.lt_of_lt_of_le hb (Nat.pow_le_pow_right (by decide) (by omega)))]
def Ly (b:Nat):List Nat:=(List.range (b+1)).filter fun p=>decide (p&&&b=p)
theorem YQ {p b:Nat}(h:p&&&b=p):p≤b:=by
 rw[←h];exact Nat.and_le_right
theorem zm {p b:Nat}:p∈Ly b↔p&&&b=p:=by
 unfold Ly;rw[List.mem_filter,List.mem_range,decide_eq_true_iff];exact⟨fun h=>h.2,fun h=>⟨by have:=YQ h;omega,h⟩⟩
theorem CK:∀{a b:List Nat},jX a→jX b→(∀x∈a,x∈b)→a.Sublist b
 |[],b,_,_,_=>List.nil_sublist b
 |x::a,[],_,_,h=>absurd (h x (List.mem_cons_self ..)) (by simp)
 |x::a,y::b,ha,hb,h=>by
  have ha':=List.pairwise_cons.mp ha;have hb':=List.pairwise_cons.mp hb;rcases List.mem_cons.mp (h x (List.mem_cons_self ..))with e|m
  ·subst e
   refine .cons₂ _ (CK ha'.2 hb'.2 fun z mz=>?_);rcases List.mem_cons.mp (h z (List.mem_cons_of_mem _ mz))with e|m
   ·have:=ha'.1 z mz
    omega
   ·exact m
  ·refine .cons _ (CK ha hb'.2 fun z mz=>?_)
   rcases List.mem_cons.mp (h z mz)with e|m'
   ·rcases List.mem_cons.mp mz with e'|m''
    ·rw[e'];exact m
    ·have h1:=ha'.1 z m''
     have h2:=hb'.1 x m;omega
   ·exact m'
theorem ZX {K p b:Nat}(h:p&&&b=p):(bunchOf K p).Sublist (bunchOf K b):=by
 refine CK (dZ _ _) (dZ _ _) fun x mx=>?_
 rw[dD]at mx⊢;refine⟨mx.1,?_⟩;have:=mx.2;rw[←h,Nat.testBit_and,Bool.and_eq_true]at this;exact this.2
theorem aiD {K b:Nat}{c:List Nat}(s:c.Sublist (bunchOf K b)):∃p,p&&&b=p∧p<2^K∧bunchOf K p=c:=by
 refine⟨zU (fun k=>c.contains k) K,?_,N7 _ _,?_⟩
 ·apply Nat.eq_of_testBit_eq
  intro i;rw[Nat.testBit_and,oA];by_cases m:c.contains i=true
  ·have:=s.subset (List.contains_iff_mem.mp m)
   rw[dD]at this;rw[this.2,Bool.and_true]
  ·rw[Bool.not_eq_true]at m
   rw[m];simp
 ·refine oh (dZ _ _) ((dZ K b).sublist s) fun x=>?_
  rw[dD,oA];constructor
  ·rintro⟨h1,h2⟩
   rw[Bool.and_eq_true]at h2;exact List.contains_iff_mem.mp h2.2
  ·intro m
   have:=s.subset m;rw[dD]at this;refine⟨this.1,?_⟩;rw[List.contains_iff_mem.mpr m];simp[this.1]
theorem afL {K b:Nat}{p:Bunch→Bool}{ns:List Nat}(hb:b<2^K) (hp:ns.Perm (Ly b)) (hs:ns.Pairwise fun x y=>Before (bunchOf K x) (bunchOf K y)):
  (∀x,ns.find? (fun x=>p (bunchOf K x))=some x→N5 p (bunchOf K b) (bunchOf K x))∧(ns.find? (fun x=>p (bunchOf K x))=none→p (bunchOf K b)=false):=by
 constructor
 ·intro x e
  have:=Ge (R:=fun x y=>Before (bunchOf K x) (bunchOf K y)) (fun a=>o9 _) hs e;have mx:=zm.mp (hp.mem_iff.mp this.2.1);refine⟨ZX mx,this.1,fun d sd hd=>?_⟩;obtain⟨y,hy,_,ey⟩:=aiD sd;rw[←ey]at hd⊢;exact this.2.2 y (hp.mem_iff.mpr (zm.mpr hy)) hd
 ·intro e
  rw[List.find?_eq_none]at e;have:=e b (hp.mem_iff.mpr (zm.mpr (Nat.and_self b)));simpa using this
theorem Z0 {K b k:Nat}(hb:b.testBit k=true):bunchOf K (b ^^^ 2^k)=(bunchOf K b).filter fun x=>x !=k:=by
 refine oh (dZ _ _) (dB _ (dZ _ _)) fun x=>?_
 rw[List.mem_filter,dD,dD,Nat.testBit_xor,Nat.testBit_two_pow];by_cases c:k=x
 ·subst c
  simp[hb]
 ·have c':x≠k:=fun e=>c e.symm
  simp[c,c']
end Kd
end
section
namespace Kd
open Kh
section
variable {h:House}{pb:List (List Pg)}{x j:Nat}{ps:List Pg}{p:Pg}
theorem ab1 (R:Rep h pb) (hr:pb[x]?=some ps) (hp:ps[j]?=some p){k:Nat}{p':Pg}(hp':ps[k]?=some p') (hk:k<j):p'.side<p.side:=by
 have e1:(ps.map Pg.side)[k]?=some p'.side:=by rw[List.getElem?_map,hp'];rfl
 have e2:(ps.map Pg.side)[j]?=some p.side:=by rw[List.getElem?_map,hp];rfl
 obtain⟨l1,g1⟩:=List.getElem?_eq_some_iff.mp e1;obtain⟨l2,g2⟩:=List.getElem?_eq_some_iff.mp e2;have:=List.pairwise_iff_getElem.mp (R.Wo x ps hr) k j l1 l2 hk;rw[g1,g2]at this;exact this
theorem afM {k:Nat}{p':Pg}(hp':ps[k]?=some p') (hk:k<j):p'∈ps.take j:=by
 refine List.mem_of_getElem? (i:=k) ?_;rw[List.getElem?_take,if_pos hk];exact hp'
theorem ahg {p':Pg}(m:p'∈ps.take j):∃k,k<j∧ps[k]?=some p':=by
 obtain⟨k,hk⟩:=List.mem_iff_getElem?.mp m;rw[List.getElem?_take]at hk
 split at hk
 ·exact⟨k,by assumption,hk⟩
 ·cases hk
variable {m r i:Nat}{ws:Ws}{q:Nat×List Nat}
theorem Rep.step (hd:cQ h) (R:Rep h pb) (B:um h (bunchOf h.keys.length m) r i (ps.take j) ws) (hq:ws[i]?=some q) (hr:pb[q.1]?=some ps) (hp:ps[j]?=some p):
  (p.behind∉ws.map (·.1)→xX m p=true→um h (bunchOf h.keys.length m) r i (ps.take (j+1)) (ws++[(p.behind,q.2++[p.side])]))∧
  (p.behind∈ws.map (·.1)∨xX m p=false→um h (bunchOf h.keys.length m) r i (ps.take (j+1)) ws):=by
 have et:ps.take (j+1)=ps.take j++[p]:=take_snoc hp;obtain⟨h1,h2,h3,h4⟩:=R.row _ ps hr p (List.mem_of_getElem? hp);rw[et];constructor
 ·intro hn ho
  refine B.put hd hq h1 h2 h3 (by rw[←h4];exact ho) (fun p' mp=>?_) (fun s hs hb hps=>?_) hn
  ·obtain⟨k,hk,e⟩:=ahg mp
   exact ab1 R hr hp e hk
  ·rcases R.all _ ps hr s (by omega) hb with⟨p',mp,ep⟩|g
   ·obtain⟨k,hk⟩:=List.mem_iff_getElem?.mp mp
    refine⟨p',afM hk ?_,ep⟩;apply Classical.byContradiction;intro g;rcases Nat.lt_or_ge j k with l|l
    ·have:=ab1 R hr hk hp l
     omega
    ·have:k=j:=by omega
     subst this;rw[hp]at hk;cases hk;omega
   ·rw[g]at hps
    cases hps
 ·intro hn
  refine B.pass fun g=>?_
  rw[h3];rcases hn with hn|hn
  ·exact hn
  ·rw[←h4,hn]at g
   cases g
theorem Rep.through (R:Rep h pb) (B:um h (bunchOf h.keys.length m) r i ps ws) (hq:ws[i]?=some q) (hr:pb[q.1]?=some ps):um h (bunchOf h.keys.length m) r (i+1) [] ws:=by
 refine B.next hq fun s hs hb hps=>?_
 rcases R.all _ ps hr s hs hb with g|g
 ·exact g
 ·rw[g]at hps
  cases hps
theorem um.found (B:um h (bunchOf h.keys.length m) r i [] ws) (hi:ws.length≤i):Found h (bunchOf h.keys.length m) r ws:=⟨B.nd,B.lt,B.done hi,B.first⟩
theorem JF (hd:cQ h){c:Bunch}{t:Nat}{l:List Nat}(hr:r<h.rooms) (f:First h c r t l):l.length<h.rooms:=by
 obtain⟨l',h1,w⟩:=Qp hd hr f.walk;have:=Gh (f.first l' w);omega
end
end Kd
end
section
namespace Kd
open Kh
theorem ab2 {ns:List Int}{l:List Nat}(hp:ns.Perm (iz l)) (hs:ns.Pairwise (·≤·)):∃l':List Nat,ns=iz l'∧l'.Perm l∧l'.Pairwise (·≤·):=by
 have nn:∀x∈ns,((x.toNat:Nat):Int)=x:=fun x m=>by
  obtain⟨n,_,e⟩:=List.mem_map.mp (hp.mem_iff.mp m);rw[←e,Int.toNat_natCast]
 have e1:iz (ns.map Int.toNat)=ns:=by
  unfold iz;rw[List.map_map]
  conv=>rhs;rw[←List.map_id ns]
  exact List.map_congr_left fun x m=>nn x m
 refine⟨ns.map Int.toNat,e1.symm,?_,?_⟩
 ·have:=hp.map Int.toNat
  unfold iz at this;rw[List.map_map]at this;have e:(Int.toNat∘fun(n:Nat)=>(n:Int))=id:=by funext n;simp
  rw[e,List.map_id]at this;exact this
 ·rw[List.pairwise_map]
  exact hs.imp fun h=>by omega
theorem ad1 {l:List Nat}(h:l.Pairwise (·≤·)) (nd:l.Nodup):jX l:=by
 have:=h.and nd;exact this.imp fun h=>by omega
theorem CN {ns:List Int}{l m:List Nat}(hp:ns.Perm (iz l)) (hs:ns.Pairwise (·≤·)) (nd:l.Nodup) (hm:jX m) (h:∀x,x∈l↔x∈m):ns=iz m:=by
 obtain⟨l',e,p,s⟩:=ab2 hp hs;have:l'=m:=oh (ad1 s (p.nodup_iff.mpr nd)) hm fun x=>p.mem_iff.trans (h x)
 rw[e,this]
theorem N8 {l:List Nat}{n:Nat}(nd:l.Nodup) (h:∀x∈l,x<n):l.length≤n:=by
 have:=nd.length_le_of_subset (l₂:=List.range n) fun x m=>List.mem_range.mpr (h x m)
 simpa using this
theorem Jd {h:House}{c:Bunch}{s:Nat}(hs:s<2*h.doors.length):∀{l:List Nat}{r t:Nat},s∉l→Walk h c r l t→Walk (h.without s) c r l t
 |[],_,_,_,w=>w
 |a::l,r,t,hn,w=>by
  rw[List.mem_cons,not_or]at hn;obtain⟨h1,h2,h3,h4⟩:=w;refine⟨by rw[wK];exact h1,?_,by rw[vQ];exact h3,?_⟩
  ·rw[qF h c hs,h2]
   simpa using fun e=>hn.1 e.symm
  ·rw[Ew]
   exact Jd hs hn.2 h4
theorem Z1 {h:House}{c:Bunch}{r t:Nat}{l:List Nat}(f:First h c r t l):l.Nodup:=by
 -- a side met twice:the walk between goes round
 have dup:∀(l:List Nat),(∀(l1 l2 l3:List Nat) (s:Nat),l≠l1++s::(l2++s::l3))→l.Nodup:=by
  intro l
  induction l with
  |nil=>intro _;exact List.nodup_nil
  |cons x l ih=>
   intro g;rw[List.nodup_cons];refine⟨fun m=>?_,ih fun l1 l2 l3 s e=>g (x::l1) l2 l3 s (by rw[e];rfl)⟩;obtain⟨l2,l3,e⟩:=List.append_of_mem m;exact g [] l2 l3 x (by rw[e];rfl)
 refine dup l fun l1 l2 l3 s e=>?_
 have w:=f.walk;rw[e]at w;obtain⟨m1,w1,w2⟩:=Walk.split w;obtain⟨a1,a2,a3,a4⟩:=w2;obtain⟨m2,w3,w4⟩:=Walk.split a4;have w6:Walk h c m1 (s::l3) t:=⟨a1,a2,a3,w4.2.2.2⟩;have w5:Walk h c r (l1++s::l3) t:=Walk.app w6 w1;have:=Gh (f.first _ w5);rw[e]at this;simp at this;omega
theorem ab3 {h:House}(hd:cQ h){c:Bunch}{r t:Nat}{l l':List Nat}(hr:r<h.rooms) (f:First h c r t l) (hs:jX l') (hm:∀x,x∈l'↔x∈l):(l'.filter fun s=> !((h.without s).leads c r t))=h.through c r t:=by
 unfold House.through;refine oh (dB _ hs) (dB _ (eE _)) fun s=>?_
 rw[List.mem_filter,List.mem_filter,hm,lR];refine⟨fun g=>⟨sG f.walk s g.1,g.2⟩,fun g=>⟨?_,g.2⟩⟩;apply Classical.byContradiction;intro n;have:=(iw (Bc hd s) (by rw[xW];exact hr)).mpr (rK (Jd g.1 n f.walk));rw[this]at g;exact absurd g.2 (by simp)
def gO (h:House) (m x:Nat) (ps:List Pg):List Nat:=(ps.filter fun p=>xX m p&& !(h.leads (bunchOf h.keys.length m) p.behind x)).map Pg.side
theorem zV {h:House}{pb:List (List Pg)}(R:Rep h pb){m x:Nat}{ps:List Pg}(e:pb[x]?=some ps) (s:Nat):s∈gO h m x ps↔s<2*h.doors.length∧h.before s=x∧h.passes (bunchOf h.keys.length m) s=true∧h.leads (bunchOf h.keys.length m) (h.behind s) (h.before s)=false:=by
 unfold gO;rw[List.mem_map];constructor
 ·rintro⟨p,mp,ep⟩
  rw[List.mem_filter,Bool.and_eq_true,Bool.not_eq_true']at mp;obtain⟨h1,h2,h3,h4⟩:=R.row x ps e p mp.1;subst ep;exact⟨h1,h2,by rw[←h4];exact mp.2.1,by rw[h3,h2];exact mp.2.2⟩
 ·rintro⟨h1,h2,h3,h4⟩
  rcases R.all x ps e s h1 h2 with⟨p,mp,ep⟩|g
  ·obtain⟨g1,g2,g3,g4⟩:=R.row x ps e p mp
   subst ep;refine⟨p,List.mem_filter.mpr ⟨mp,?_⟩,rfl⟩;rw[g4,h3,←g3];rw[h2]at h4;rw[h4];rfl
  ·rw[g]at h3
   cases h3
theorem QT {h:House}{pb:List (List Pg)}(R:Rep h pb){m x:Nat}{ps:List Pg}(e:pb[x]?=some ps):(gO h m x ps).Nodup:=by
 unfold gO;have:=(R.Wo x ps e).sublist ((List.filter_sublist (p:=fun p=>xX m p&& !(h.leads (bunchOf h.keys.length m) p.behind x)) (l:=ps)).map Pg.side);exact iu this
def oE (h:House) (pb:List (List Pg)) (m:Nat) (xs:List Nat):List Nat:=xs.flatMap fun x=>gO h m x (pb[x]?.getD [])
theorem Wt (h:House) (pb:List (List Pg)) (m:Nat) (xs:List Nat) (x:Nat){ps:List Pg}(e:pb[x]?=some ps):oE h pb m (xs++[x])=oE h pb m xs++gO h m x ps:=by
 unfold oE;rw[List.flatMap_append,List.flatMap_singleton,e];rfl
theorem CP {h:House}{pb:List (List Pg)}(R:Rep h pb){m:Nat}{xs:List Nat}(hx:∀x∈xs,x<h.rooms) (s:Nat):s∈oE h pb m xs↔s<2*h.doors.length∧h.before s∈xs∧h.passes (bunchOf h.keys.length m) s=true∧h.leads (bunchOf h.keys.length m) (h.behind s) (h.before s)=false:=by
 unfold oE;rw[List.mem_flatMap];have get:∀x∈xs,pb[x]?=some (pb[x]?.getD []):=fun x mx=>by
  have:x<pb.length:=by rw[R.len];exact hx x mx
  rw[List.getElem?_eq_getElem this];rfl
 constructor
 ·rintro⟨x,mx,ms⟩
  have:=(zV R (get x mx) s).mp ms;exact⟨this.1,by rw[this.2.1];exact mx,this.2.2⟩
 ·rintro⟨h1,h2,h3⟩
  exact⟨_,h2,(zV R (get _ h2) s).mpr ⟨h1,rfl,h3⟩⟩
theorem xY {h:House}{pb:List (List Pg)}(R:Rep h pb){m:Nat}:∀{xs:List Nat},xs.Nodup→(∀x∈xs,x<h.rooms)→(oE h pb m xs).Nodup
 |[],_,_=>List.nodup_nil
 |x::xs,nd,hx=>by
  have e:pb[x]?=some (pb[x]?.getD []):=by
   have:x<pb.length:=by rw[R.len];exact hx x (List.mem_cons_self ..)
   rw[List.getElem?_eq_getElem this];rfl
  rw[List.nodup_cons]at nd;show(gO h m x (pb[x]?.getD [])++oE h pb m xs).Nodup;rw[List.nodup_append];refine⟨QT R e,xY R nd.2 fun y my=>hx y (List.mem_cons_of_mem _ my),fun s ms s' ms' es=>?_⟩;subst es;have h1:=(zV R e s).mp ms;have h2:=(CP R (fun y my=>hx y (List.mem_cons_of_mem _ my)) s).mp ms';rw[h1.2.1]at h2;exact nd.1 h2.2.1
theorem afN {h:House}(hd:cQ h){pb:List (List Pg)}(R:Rep h pb){m r:Nat}(hr:r<h.rooms){ws:Ws}(F:Found h (bunchOf h.keys.length m) r ws) (s:Nat):s∈oE h pb m (ws.map (·.1))↔s∈h.traps (bunchOf h.keys.length m) r:=by
 rw[CP R (fun x mx=>by obtain⟨q,mq,e⟩:=List.mem_map.mp mx;rw[←e];exact F.lt q mq)];unfold House.traps;rw[List.mem_filter,lR,Bool.and_eq_true,Bool.and_eq_true,Bool.not_eq_true',F.mem,iw hd hr];exact⟨fun⟨a,b,c,d⟩=>⟨a,c,b,d⟩,fun⟨a,c,b,d⟩=>⟨a,b,c,d⟩⟩
theorem ahh {h:House}(hd:cQ h){c:Bunch}{r:Nat}(hr:r<h.rooms){n:Nat}(h1:h.leads c r n=true∧h.leads c n r=true) (h2:∀x,h.leads c r x=true→h.leads c x r=true→n≤x):h.part c r=n:=by
 have hn:n<h.rooms:=HB hd hr ((iw hd hr).mp h1.1);unfold House.part;cases e:(List.range h.rooms).find? fun(t:Nat)=>h.leads c r t&&h.leads c t r with
 |none=>
  rw[List.find?_eq_none]at e;have:=e n (List.mem_range.mpr hn);rw[h1.1,h1.2]at this;exact absurd rfl this
 |some x=>
  obtain⟨g1,g2,g3⟩:=vq e;rw[Bool.and_eq_true]at g2;have a1:=h2 x g2.1 g2.2;have:¬n<x:=fun l=>by
   have:=g3 n l;rw[h1.1,h1.2]at this;cases this
  show x=n;omega
end Kd
end
section
namespace Kd
open Kh
def cF (hg:List (Nat×Nat)) (r:Nat):Nat:=hg.foldl (fun acc p=>if p.2=r then acc|||2^p.1 else acc) 0
theorem ab4 (hg:List (Nat×Nat)) (p:Nat×Nat) (r:Nat):cF (hg++[p]) r=if p.2=r then cF hg r|||2^p.1 else cF hg r:=by
 unfold cF;rw[List.foldl_append];rfl
theorem Je (r k:Nat):∀(hg:List (Nat×Nat)) (a:Nat),(hg.foldl (fun acc p=>if p.2=r then acc|||2^p.1 else acc) a).testBit k=(a.testBit k||hg.any fun p=>decide (p.2=r)&&decide (p.1=k))
 |[],a=>by simp
 |p::hg,a=>by
  rw[List.foldl_cons,Je r k hg,List.any_cons];by_cases c:p.2=r
  ·rw[if_pos c,Nat.testBit_or,Nat.testBit_two_pow]
   simp[c,Bool.or_assoc]
  ·rw[if_neg c]
   simp[c]
theorem Gi (hg:List (Nat×Nat)) (r k:Nat):(cF hg r).testBit k=hg.any fun p=>decide (p.2=r)&&decide (p.1=k):=by
 unfold cF;rw[Je];simp
theorem xK {hg:List (Nat×Nat)}{K:Nat}(h:∀p∈hg,p.1<K) (r:Nat):cF hg r<2^K:=by
 apply Nat.lt_pow_two_of_testBit;intro i hi;rw[Gi,List.any_eq_false];intro p mp;have:=h p mp;simp;omega
theorem Oa:∀{hg:List (Nat×Nat)}{k r:Nat},(hg.map (·.1)).Nodup→(gC hg k=some r↔(k,r)∈hg)
 |[],k,r,_=>by simp[gC]
 |p::hg,k,r,nd=>by
  rw[List.map_cons,List.nodup_cons]at nd;rw[jh,List.mem_cons];by_cases c:p.1=k
  ·rw[if_pos c]
   constructor
   ·intro e
    left;have:=Option.some.inj e;rw[←c,←this]
   ·rintro(e|m)
    ·rw[←e]
    ·exact absurd (List.mem_map.mpr ⟨(k,r),m,rfl⟩) (by rw[←c];exact nd.1)
  ·rw[if_neg c,Oa nd.2]
   constructor
   ·exact .inr
   ·rintro(e|m)
    ·rw[←e]at c
     exact absurd rfl c
    ·exact m
section
variable {h:House}{cb:List (Nat×List Nat)}{hg:List (Nat×Nat)}
theorem Ob (I:bV h cb hg):hangs h≤HANG:=by
 unfold hangs;rw[Ls (hg:=hg) (fun k hk=>I.hooks k (by rw[←I.hl];exact hk)) (fun p mp=>by rw[I.hl];exact(I.Cy p mp).1) I.hnd];exact I.hn
theorem Oc (I:bV h cb hg) (r b:Nat):h.all r (bunchOf h.keys.length b)=bunchOf h.keys.length (b|||cF hg r):=by
 unfold House.all bunchOf;refine List.filter_congr fun k mk=>?_
 rw[List.mem_range]at mk;rw[Nat.testBit_or,I.hooks k mk];have e1:((List.range h.keys.length).filter fun i=>b.testBit i).contains k=b.testBit k:=by
  rw[Bool.eq_iff_iff,List.contains_iff_mem,List.mem_filter,List.mem_range];simp[mk]
 have e2:hangsIn r (some (gC hg k))=(cF hg r).testBit k:=by
  rw[Bool.eq_iff_iff,Lq,Gi,List.any_eq_true];constructor
  ·intro e
   have:=(Oa I.hnd).mp (Option.some.inj e);exact⟨_,this,by simp⟩
  ·rintro⟨p,mp,g⟩
   simp at g;have:(k,r)∈hg:=by rw[←g.1,←g.2];exact mp
   rw[(Oa I.hnd).mpr this]
 rw[e1,e2]
abbrev Sb:=Nat×Nat
def xZ (h:House) (hg:List (Nat×Nat)) (x y:Sb):Prop:=∃s,s<2*h.doors.length∧h.before s=x.1∧h.passes (bunchOf h.keys.length x.2) s=true∧y=(h.behind s,x.2|||cF hg (h.behind s))
def toS (h:House) (x:Sb):Stand:=(x.1,bunchOf h.keys.length x.2)
theorem ahi (I:bV h cb hg){x y:Sb}(c:xZ h hg x y):uq h (toS h x) (toS h y):=by
 obtain⟨s,h1,h2,h3,h4⟩:=c;refine⟨s,h1,h2,h3,?_⟩;rw[h4];show(h.behind s,_)=(h.behind s,h.all (h.behind s) (bunchOf h.keys.length x.2));rw[Oc I]
theorem ad2 (I:bV h cb hg){x:Sb}{z:Stand}(c:uq h (toS h x) z):∃y,xZ h hg x y∧toS h y=z:=by
 obtain⟨s,h1,h2,h3,h4⟩:=c;refine⟨(h.behind s,x.2|||cF hg (h.behind s)),⟨s,h1,h2,h3,rfl⟩,?_⟩;rw[h4];show(h.behind s,_)=(h.behind s,h.all (h.behind s) (bunchOf h.keys.length x.2));rw[Oc I]
theorem Od (I:bV h cb hg){x y:Sb}(c:Reach (xZ h hg) x y):Reach (uq h) (toS h x) (toS h y):=by
 induction c with
 |base=>exact .base
 |step a e ih=>exact ih.step (ahi I e)
theorem Qy (I:bV h cb hg){x:Sb}{z:Stand}(c:Reach (uq h) (toS h x) z):∃y,Reach (xZ h hg) x y∧toS h y=z:=by
 induction c with
 |base=>exact⟨x, .base,rfl⟩
 |step a e ih=>
  obtain⟨y,h1,h2⟩:=ih;rw[←h2]at e;obtain⟨z,g1,g2⟩:=ad2 I e;exact⟨z,h1.step g1,g2⟩
theorem Oe {K a b:Nat}(ha:a<2^K) (hb:b<2^K):a|||b<2^K:=Nat.or_lt_two_pow ha hb
theorem uz (I:bV h cb hg){x y:Sb}(hx1:x.1<h.rooms) (hx:x.2<2^h.keys.length) (c:Reach (xZ h hg) x y):y.1<h.rooms∧y.2<2^h.keys.length:=by
 refine Reach.closed (P:=fun y:Sb=>y.1<h.rooms∧y.2<2^h.keys.length) c ⟨hx1,hx⟩ fun a b ha e=>?_
 obtain⟨s,h1,h2,h3,h4⟩:=e;rw[h4];exact⟨rB I.doors h1,Oe ha.2 (xK (fun p mp=>(I.Cy p mp).1) _)⟩
def startB (hg:List (Nat×Nat)) (b r:Nat):Sb:=(r,b|||cF hg r)
theorem yc (I:bV h cb hg) (b r:Nat):toS h (startB hg b r)=(r,h.all r (bunchOf h.keys.length b)):=by
 unfold startB toS;rw[Oc I]
structure Uk (h:House) (hg:List (Nat×Nat)) (x0:Sb) (seen wt:List Sb):Prop where
 nd:seen.Nodup
 start:x0∈seen
 sound:∀y∈seen,Reach (xZ h hg) x0 y
 wait:∀y∈wt,y∈seen
 closed:∀x∈seen,x∈wt∨∀y,xZ h hg x y→y∈seen
structure uX (h:House) (hg:List (Nat×Nat)) (x0 x:Sb) (ps:List Pg) (seen wt:List Sb):Prop where
 nd:seen.Nodup
 start:x0∈seen
 sound:∀y∈seen,Reach (xZ h hg) x0 y
 wait:∀y∈wt,y∈seen
 at_:x∈seen
 closed:∀y∈seen,y=x∨y∈wt∨∀z,xZ h hg y z→z∈seen
 row:∀p∈ps,xX x.2 p=true→(p.behind,x.2|||cF hg p.behind)∈seen
theorem ad3 (x0:Sb):Uk h hg x0 [x0] [x0]:=⟨by simp,by simp,fun y my=>by rw[List.mem_singleton]at my;rw[my];exact .base,fun y my=>my,fun x mx=> .inl mx⟩
theorem Uk.pop {x0 x:Sb}{seen wait:List Sb}(D:Uk h hg x0 seen (wait++[x])):uX h hg x0 x [] seen wait:=
 ⟨D.nd,D.start,D.sound,fun y my=>D.wait y (List.mem_append_left _ my),D.wait x (by simp),fun y my=>by
  rcases D.closed y my with g|g
  ·rcases List.mem_append.mp g with g|g
   ·exact .inr (.inl g)
   ·exact .inl (List.mem_singleton.mp g)
  ·exact .inr (.inr g),fun p mp=>by cases mp⟩
theorem uX.put {pb:List (List Pg)}(R:Rep h pb){x0 x:Sb}{ps qs:List Pg}{seen wait:List Sb}(D:uX h hg x0 x ps seen wait) (hq:pb[x.1]?=some qs){p:Pg}(mp:p∈qs) (ho:xX x.2 p=true) (hn:(p.behind,x.2|||cF hg p.behind)∉seen):
  uX h hg x0 x (ps++[p]) (seen++[(p.behind,x.2|||cF hg p.behind)]) (wait++[(p.behind,x.2|||cF hg p.behind)]):=by
 obtain⟨h1,h2,h3,h4⟩:=R.row _ qs hq p mp;refine⟨?_,List.mem_append_left _ D.start,fun y my=>?_,fun y my=>?_,List.mem_append_left _ D.at_,fun y my=>?_,fun q mq g=>?_⟩
 ·rw[List.nodup_append]
  refine⟨D.nd,by simp,fun a ma b mb e=>hn ?_⟩;rw[List.mem_singleton]at mb;rw[←mb,←e];exact ma
 ·rcases List.mem_append.mp my with my|my
  ·exact D.sound y my
  ·rw[List.mem_singleton]at my
   subst my;refine(D.sound x D.at_).step ⟨p.side,h1,h2,by rw[←h4];exact ho,by rw[h3]⟩
 ·rcases List.mem_append.mp my with my|my
  ·exact List.mem_append_left _ (D.wait y my)
  ·exact List.mem_append_right _ my
 ·rcases List.mem_append.mp my with my|my
  ·rcases D.closed y my with g|g|g
   ·exact .inl g
   ·exact .inr (.inl (List.mem_append_left _ g))
   ·exact .inr (.inr fun z e=>List.mem_append_left _ (g z e))
  ·exact .inr (.inl (List.mem_append_right _ my))
 ·rcases List.mem_append.mp mq with mq|mq
  ·exact List.mem_append_left _ (D.row q mq g)
  ·rw[List.mem_singleton]at mq
   rw[mq];simp
theorem uX.pass {x0 x:Sb}{ps:List Pg}{seen wait:List Sb}(D:uX h hg x0 x ps seen wait){p:Pg}(hn:xX x.2 p=true→(p.behind,x.2|||cF hg p.behind)∈seen):uX h hg x0 x (ps++[p]) seen wait:=
 ⟨D.nd,D.start,D.sound,D.wait,D.at_,D.closed,fun q mq g=>by
  rcases List.mem_append.mp mq with mq|mq
  ·exact D.row q mq g
  ·rw[List.mem_singleton]at mq
   rw[mq]at g⊢;exact hn g⟩
theorem uX.done {pb:List (List Pg)}(R:Rep h pb){x0 x:Sb}{qs:List Pg}{seen wait:List Sb}(D:uX h hg x0 x qs seen wait) (hq:pb[x.1]?=some qs):Uk h hg x0 seen wait:=
 ⟨D.nd,D.start,D.sound,D.wait,fun y my=>by
  rcases D.closed y my with g|g|g
  ·right
   subst g;rintro z ⟨s,h1,h2,h3,h4⟩;rcases R.all _ qs hq s h1 h2 with⟨p,mp,ep⟩|g
   ·obtain⟨g1,g2,g3,g4⟩:=R.row _ qs hq p mp
    have:=D.row p mp (by rw[g4,ep];exact h3);rw[h4,←ep,g3];exact this
   ·rw[g]at h3
    cases h3
  ·exact .inl g
  ·exact .inr g⟩
theorem Uk.mem {x0:Sb}{seen:List Sb}(D:Uk h hg x0 seen []) (y:Sb):y∈seen↔Reach (xZ h hg) x0 y:=by
 refine⟨D.sound y,fun c=>Reach.closed (P:=fun y=>y∈seen) c D.start fun a b ha e=>?_⟩;rcases D.closed a ha with g|g
 ·cases g
 ·exact g b e
theorem ab5 (I:bV h cb hg){b r:Nat}(hb:b<2^h.keys.length) (hr:r<h.rooms){seen:List Sb}(nd:seen.Nodup) (hs:∀y∈seen,Reach (xZ h hg) (startB hg b r) y):seen.length≤384:=by
 have h0:(startB hg b r).2<2^h.keys.length:=Oe hb (xK (fun p mp=>(I.Cy p mp).1) _);have nd':(seen.map (toS h)).Nodup:=by
  show(List.map _ _).Pairwise (·≠·);rw[List.pairwise_map];refine nd.imp_of_mem fun{a c} ma mc n e=>n ?_
  have e:(a.1,bunchOf h.keys.length a.2)=(c.1,bunchOf h.keys.length c.2):=e;have e1:a.1=c.1:=(Prod.mk.inj e).1;have e2:=ZW (uz I hr h0 (hs a ma)).2 (uz I hr h0 (hs c mc)).2 (Prod.mk.inj e).2;exact Prod.ext e1 e2
 have:=Ja I.doors (fun k mk=>Gg mk) (dZ h.keys.length b) hr (Ob I) (seen.map (toS h)) nd' fun y my=>by
  obtain⟨x,mx,e⟩:=List.mem_map.mp my;rw[←e,←yc I];exact Od I (hs x mx)
 rw[List.length_map]at this;have h24:=I.rooms.2;have:h.rooms*2^HANG≤24*16:=Nat.mul_le_mul h24 (by decide);omega
theorem Z2 (I:bV h cb hg){b r:Nat}(hb:b<2^h.keys.length) (hr:r<h.rooms){seen:List Sb}(D:Uk h hg (startB hg b r) seen []) (t:Nat):t∈h.foundRooms (bunchOf h.keys.length b) r↔∃y∈seen,y.1=t:=by
 have e:=JD I.doors (fun k mk=>Gg mk) (dZ h.keys.length b) hr (Ob I) (p:=fun t=>seen.any fun y=>decide (y.1=t)) fun t ht=>by
  rw[List.any_eq_true];constructor
  ·rintro⟨y,my,g⟩
   refine⟨bunchOf h.keys.length y.2,?_⟩;rw[←yc I,←of_decide_eq_true g];exact Od I ((D.mem y).mp my)
  ·rintro⟨B,c⟩
   rw[←yc I]at c;obtain⟨y,c1,c2⟩:=Qy I c;exact⟨y,(D.mem y).mpr c1,decide_eq_true (congrArg Prod.fst c2)⟩
 rw[e,List.mem_filter,List.mem_range,List.any_eq_true];constructor
 ·rintro⟨_,y,my,g⟩
  exact⟨y,my,of_decide_eq_true g⟩
 ·rintro⟨y,my,g⟩
  refine⟨?_,y,my,decide_eq_true g⟩;rw[←g];exact(uz I (x:=startB hg b r) hr (Oe hb (xK (fun p mp=>(I.Cy p mp).1) _)) ((D.mem y).mp my)).1
theorem ad4 (h:House) (b:Bunch) (r:Nat):jX (h.foundRooms b r):=dB _ (eE _)
def yd (ys:List Sb):Nat:=ys.foldl (fun a y=>a|||y.2) 0
theorem yg (k:Nat):∀(ys:List Sb) (a:Nat),(ys.foldl (fun a y=>a|||y.2) a).testBit k=(a.testBit k||ys.any fun y=>y.2.testBit k)
 |[],a=>by simp
 |y::ys,a=>by
  rw[List.foldl_cons,yg k ys,Nat.testBit_or,List.any_cons,Bool.or_assoc]
theorem ab6 (I:bV h cb hg){b r:Nat}(hb:b<2^h.keys.length) (hr:r<h.rooms){seen:List Sb}(D:Uk h hg (startB hg b r) seen []):bunchOf 8 (yd seen)=h.foundKeys (bunchOf h.keys.length b) r:=by
 have h0:(startB hg b r).2<2^h.keys.length:=Oe hb (xK (fun p mp=>(I.Cy p mp).1) _);have e:=Lr I.doors (fun k mk=>Gg mk) (dZ h.keys.length b) hr (Ob I) (p:=fun k=>(yd seen).testBit k) fun k hk=>by
  unfold yd;rw[yg,Nat.zero_testBit,Bool.false_or,List.any_eq_true];constructor
  ·rintro⟨y,my,g⟩
   refine⟨y.1,bunchOf h.keys.length y.2,?_,dD.mpr ⟨hk,g⟩⟩;rw[←yc I];exact Od I ((D.mem y).mp my)
  ·rintro⟨t,B,c,m⟩
   rw[←yc I]at c;obtain⟨y,c1,c2⟩:=Qy I c;have:bunchOf h.keys.length y.2=B:=congrArg Prod.snd c2;rw[←this,dD]at m;exact⟨y,(D.mem y).mpr c1,m.2⟩
 rw[e];have hlt:yd seen<2^h.keys.length:=by
  apply Nat.lt_pow_two_of_testBit;intro i hi;unfold yd;rw[yg,Nat.zero_testBit,Bool.false_or,List.any_eq_false];intro y my;have:=(uz I (x:=startB hg b r) hr h0 ((D.mem y).mp my)).2;rw[Nat.testBit_lt_two_pow (Nat.lt_of_lt_of_le this (Nat.pow_le_pow_right (by decide) hi))];simp
 rw[qb I.nk hlt];rfl
end
end Kd
end
section
namespace Hk
open PySem PySem.Spec PyProof.Rows L2
theorem same_refl (H:Hp):Same H H:=fun _ _ e=>e
theorem aZ {H:Hp}{p:Addr}{o:HO}(h:H p=none):Same H (upd H p o):=fun b u e=>by
 rw[aJ (aQ e h)];exact e
theorem jd {H H':Hp}{p:Addr}{o:HO}(s:Same H H') (h:H p=none):Same H (upd H' p o):=fun b u e=>by
 rw[aJ (aQ e h)];exact s b u e
structure Acc (H1:Hp) (D:Addr) (out:List V) (H:Hp):Prop where
 same:Same H1 H
 lst:H D=some (.lst out)
theorem Acc.start {H1:Hp}{D:Addr}(h:H1 D=none):Acc H1 D [] (upd H1 D (.lst [])):=⟨aZ h,aq⟩
theorem Acc.keep {H1 H H':Hp}{D:Addr}{out:List V}(a:Acc H1 D out H) (s:Same H H'):Acc H1 D out H':=⟨a.same.trans s,s _ _ a.lst⟩
theorem Acc.push {H1 H H':Hp}{D:Addr}{out:List V}(a:Acc H1 D out H) (s:Same H H') (h:H1 D=none) (y:V):Acc H1 D (out++[y]) (upd H' D (.lst (out++[y]))):=
 ⟨jd (a.same.trans s) h,aq⟩
section
variable {K:PySem.W.Frag}{a b:Addr}{xs ys:List V}{g:TG}{tt:TT}{te:TE}{vs:List Nat}{σ:L2.St}{H1:Hp}{Qd:Hp→Prop}{D:Addr}
abbrev Turned (tt:TT) (te:TE) (vs:List Nat) (σ:L2.St) (D:Addr) (N:Hp→Prop):L2.St→Hp→Prop:=fun σ2 H2=>wipe σ2 vs=wipe σ vs∧tt σ2 H2 fun b H3=>
 if b=true then te σ2 H3 fun y H4=>∃acc,H4 D=some (.lst acc)∧acc.length<sizeLine∧N (upd H4 D (.lst (acc++[y])))else N H3
abbrev Lc (J:It) (g:TG) (tt:TT) (te:TE) (vs:List Nat) (σ:L2.St) (H1:Hp) (Qd:Hp→Prop) (D:Addr):Prop:=∃W:Nat→Nat→Hp→Prop,(∃m,W 0 m (upd H1 D (.lst [])))∧∀i m H,W i m H→
 (J.stop i H∧Qd H)∨(J.go i H∧∃Nx:Hp→Prop,(∀H',Nx H'→∃m',m'<m∧W (i+1) m' H')∧∀x H',J.Zi i H x H'→g x (wipe σ vs) H' (Turned tt te vs σ D Nx))
theorem ab7 (Pv:Nat→Hp→Prop) (h0:Pv 0 (upd H1 D (.lst []))) (hl:∀i H,i≤xs.length→Pv i H→dR K H a xs)
  (hs:∀i x H,xs[i]?=some x→Pv i H→g x (wipe σ vs) H (Turned tt te vs σ D (Pv (i+1)))) (hd:∀H,Pv xs.length H→Qd H):Lc (Itl K a) g tt te vs σ H1 Qd D:=by
 refine⟨fun i m H=>m=xs.length-i∧i≤xs.length∧Pv i H,⟨xs.length,by simp,Nat.zero_le _,h0⟩,?_⟩;rintro i m H ⟨rfl,hi,p⟩;have q:=hl i H hi p;by_cases hlt:i<xs.length
 ·refine .inr ⟨⟨xs,xs[i],q,by simp[hlt]⟩,Pv (i+1),fun H' p'=>⟨xs.length-(i+1),by omega,rfl,hlt,p'⟩,fun x H' y=>?_⟩
  obtain⟨e,y⟩:=y;subst e;exact hs i x _ (y xs q) p
 ·have e:i=xs.length:=by omega
  subst e;exact .inl ⟨⟨xs,q,Nat.le_refl _⟩,hd H p⟩
theorem Bg {lo:Int}{n:Nat}(Pv:Nat→Hp→Prop) (h0:Pv 0 (upd H1 D (.lst [])))
  (hs:∀i H,i<n→Pv i H→g (.int (lo+i)) (wipe σ vs) H (Turned tt te vs σ D (Pv (i+1)))) (hd:∀H,Pv n H→Qd H):Lc (Itr lo n) g tt te vs σ H1 Qd D:=by
 refine⟨fun i m H=>m=n-i∧i≤n∧Pv i H,⟨n,by simp,Nat.zero_le _,h0⟩,?_⟩;rintro i m H ⟨rfl,hi,p⟩;by_cases hlt:i<n
 ·refine .inr ⟨hlt,Pv (i+1),fun H' p'=>⟨n-(i+1),by omega,rfl,hlt,p'⟩,fun x H' y=>?_⟩
  obtain⟨e,y⟩:=y;subst e y;exact hs i _ hlt p
 ·have e:i=n:=by omega
  subst e;exact .inl ⟨Nat.le_refl _,hd H p⟩
theorem ahj (Pv:Nat→Hp→Prop) (h0:Pv 0 (upd H1 D (.lst []))) (hl:∀i H,i≤xs.length→Pv i H→dR K H a xs)
  (hs:∀i x H T,xs[i]?=some x→Pv i H→H T=none→g (.ref T) (wipe σ vs) (upd H T (.tup [.int (i:Nat),x])) (Turned tt te vs σ D (Pv (i+1)))) (hd:∀H,Pv xs.length H→Qd H):Lc (Ite K a) g tt te vs σ H1 Qd D:=by
 refine⟨fun i m H=>m=xs.length-i∧i≤xs.length∧Pv i H,⟨xs.length,by simp,Nat.zero_le _,h0⟩,?_⟩;rintro i m H ⟨rfl,hi,p⟩;have q:=hl i H hi p;by_cases hlt:i<xs.length
 ·refine .inr ⟨⟨xs,xs[i],q,by simp[hlt]⟩,Pv (i+1),fun H' p'=>⟨xs.length-(i+1),by omega,rfl,hlt,p'⟩,fun x H' y=>?_⟩
  obtain⟨T,x',e,hT,eH,hx⟩:=y;subst e eH;exact hs i x' H T (hx xs q) p hT
 ·have e:i=xs.length:=by omega
  subst e;exact .inl ⟨⟨xs,q,Nat.le_refl _⟩,hd H p⟩
theorem aiE (hlen:xs.length=ys.length) (Pv:Nat→Hp→Prop) (h0:Pv 0 (upd H1 D (.lst []))) (hl:∀i H,i≤xs.length→Pv i H→dR K H a xs∧dR K H b ys)
  (hs:∀i x y H T,xs[i]?=some x→ys[i]?=some y→Pv i H→H T=none→g (.ref T) (wipe σ vs) (upd H T (.tup [x,y])) (Turned tt te vs σ D (Pv (i+1)))) (hd:∀H,Pv xs.length H→Qd H):Lc (Itz K a b) g tt te vs σ H1 Qd D:=by
 refine⟨fun i m H=>m=xs.length-i∧i≤xs.length∧Pv i H,⟨xs.length,by simp,Nat.zero_le _,h0⟩,?_⟩;rintro i m H ⟨rfl,hi,p⟩;obtain⟨q1,q2⟩:=hl i H hi p;by_cases hlt:i<xs.length
 ·have hlt2:i<ys.length:=by omega
  refine .inr ⟨⟨xs,ys,xs[i],ys[i],q1,q2,by simp[hlt],by simp[hlt2]⟩,Pv (i+1),fun H' p'=>⟨xs.length-(i+1),by omega,rfl,hlt,p'⟩,fun x H' y=>?_⟩;obtain⟨T,x',y',e,hT,eH,hx,hy⟩:=y;subst e eH;exact hs i x' y' H T (hx xs q1) (hy ys q2) p hT
 ·have e:i=xs.length:=by omega
  subst e;exact .inl ⟨⟨xs,ys,q1,q2, .inl (Nat.le_refl _)⟩,hd H p⟩
theorem ahk {n:Nat}(h1:n≤xs.length) (h2:n≤ys.length) (hn:xs.length=n∨ys.length=n) (Pv:Nat→Hp→Prop) (h0:Pv 0 (upd H1 D (.lst []))) (hl:∀i H,i≤n→Pv i H→dR K H a xs∧dR K H b ys)
  (hs:∀i x y H T,i<n→xs[i]?=some x→ys[i]?=some y→Pv i H→H T=none→g (.ref T) (wipe σ vs) (upd H T (.tup [x,y])) (Turned tt te vs σ D (Pv (i+1)))) (hd:∀H,Pv n H→Qd H):Lc (Itz K a b) g tt te vs σ H1 Qd D:=by
 refine⟨fun i m H=>m=n-i∧i≤n∧Pv i H,⟨n,by simp,Nat.zero_le _,h0⟩,?_⟩;rintro i m H ⟨rfl,hi,p⟩;obtain⟨q1,q2⟩:=hl i H hi p;by_cases hlt:i<n
 ·have hlt1:i<xs.length:=by omega
  have hlt2:i<ys.length:=by omega
  refine .inr ⟨⟨xs,ys,xs[i],ys[i],q1,q2,by simp[hlt1],by simp[hlt2]⟩,Pv (i+1),fun H' p'=>⟨n-(i+1),by omega,rfl,hlt,p'⟩,fun x H' y=>?_⟩;obtain⟨T,x',y',e,hT,eH,hx,hy⟩:=y;subst e eH;exact hs i x' y' H T hlt (hx xs q1) (hy ys q2) p hT
 ·have e:i=n:=by omega
  subst e;exact .inl ⟨⟨xs,ys,q1,q2,by omega⟩,hd H p⟩
end
abbrev Ev (t:TE) (σ:L2.St) (H:Hp) (v:V):Prop:=∀Q:VK,Q v H→t σ H Q
abbrev Eg (t:TE) (σ:L2.St) (H:Hp) (v:V):Prop:=∀Q:VK,(∀H',Same H H'→Q v H')→t σ H Q
abbrev Tv (t:TT) (σ:L2.St) (H:Hp) (b:Bool):Prop:=∀Q:Bool→Hp→Prop,Q b H→t σ H Q
abbrev Tg (t:TT) (σ:L2.St) (H:Hp) (b:Bool):Prop:=∀Q:Bool→Hp→Prop,(∀H',Same H H'→Q b H')→t σ H Q
section
variable {ta tb:TE}{tA Ss:TT}{σ:L2.St}{H:Hp}{c d:Bool}{v:V}
theorem Ev.eg (h:Ev ta σ H v):Eg ta σ H v:=fun Q q=>h Q (q H (same_refl H))
theorem Tv.tg (h:Tv tA σ H c):Tg tA σ H c:=fun Q q=>h Q (q H (same_refl H))
theorem Ev.and (h1:Ev ta σ H (.bl c)) (h2:c=true→Ev tb σ H (.bl d)):Ev (adt ta tb) σ H (.bl (c&&d)):=fun Q q=>by
 refine h1 _ ⟨c,rfl,?_⟩;cases c
 ·exact q
 ·exact h2 rfl Q q
theorem Eg.and (h1:Eg ta σ H (.bl c)) (h2:c=true→∀H',Same H H'→Eg tb σ H' (.bl d)):Eg (adt ta tb) σ H (.bl (c&&d)):=fun Q q=>by
 refine h1 _ fun H' s=>⟨c,rfl,?_⟩
 cases c
 ·exact q H' s
 ·exact h2 rfl H' s Q fun H2 s2=>q H2 (s.trans s2)
theorem Ev.or (h1:Ev ta σ H (.bl c)) (h2:c=false→Ev tb σ H (.bl d)):Ev (ajg ta tb) σ H (.bl (c||d)):=fun Q q=>by
 refine h1 _ ⟨c,rfl,?_⟩;cases c
 ·exact h2 rfl Q q
 ·exact q
theorem Ev.not (h1:Ev ta σ H (.bl c)):Ev (agw ta) σ H (.bl (!c)):=fun Q q=>h1 _ ⟨c,rfl,q⟩
theorem Tv.and (h1:Tv tA σ H c) (h2:c=true→Tv Ss σ H d):Tv (aeN tA Ss) σ H (c&&d):=fun Q q=>by
 refine h1 _ ?_;cases c
 ·exact q
 ·exact h2 rfl Q q
theorem Tv.or (h1:Tv tA σ H c) (h2:c=false→Tv Ss σ H d):Tv (tOr tA Ss) σ H (c||d):=fun Q q=>by
 refine h1 _ ?_;cases c
 ·exact h2 rfl Q q
 ·exact q
theorem Tg.and (h1:Tg tA σ H c) (h2:c=true→∀H',Same H H'→Tg Ss σ H' d):Tg (aeN tA Ss) σ H (c&&d):=fun Q q=>by
 refine h1 _ fun H' s=>?_
 cases c
 ·exact q H' s
 ·exact h2 rfl H' s Q fun H2 s2=>q H2 (s.trans s2)
theorem Tv.not (h1:Tv tA σ H c):Tv (agv tA) σ H (!c):=fun Q q=>h1 _ q
theorem Tg.not (h1:Tg tA σ H c):Tg (agv tA) σ H (!c):=fun Q q=>h1 _ fun H' s=>q H' s
theorem Ev.cJ (h1:Ev ta σ H (.bl c)):Tv (tB ta) σ H c:=fun Q q=>h1 _ ⟨c,rfl,q⟩
theorem Eg.cJ (h1:Eg ta σ H (.bl c)):Tg (tB ta) σ H c:=fun Q q=>h1 _ fun H' s=>⟨c,rfl,q H' s⟩
theorem Ev.cG (h1:Ev ta σ H (.bl c)):Tv (Zr ta) σ H c:=fun Q q=>h1 _ ⟨c,rfl,q⟩
end
theorem gP {N:List Str}{sc scope:Scope}{own:List (Str×Nat)}(hk:scope.kind= .function)
  (h:(∀y∈scope.names,scope.names.lookup y.1=some y.2)∧(∀p∈own,N[p.2]?=some p.1)∧(∀y∈scope.names,y.2= .free→sc.names.lookup y.1=some .cell∨sc.names.lookup y.1=some .free)∧∀y∈scope.names,y.2= .local∨y.2= .cell→y.1∈own.map (·.1)∨y.1∉N):
  Te N sc scope own:=⟨hk,h.1,h.2.1,h.2.2.1,h.2.2.2⟩
section
variable {X:Cx}{a b e:Expr}{ta tb:TE}{f:Str}{pos:Pos}
theorem ab8 (K:PySem.W.Frag) (hK:X.K=K) (he:PE X e ta) (hb:attributeBase e f X.env (eval e X.env)=eval e X.env):PE X (.Attribute e f pos) (Yo K ta f):=by
 subst hK;exact aN he hb
theorem ab9 (K:PySem.W.Frag) (hK:X.K=K):Wl X (rIx K):=by
 subst hK;exact bw
theorem Lz (K:PySem.W.Frag) (hK:X.K=K){i j:Nat}{x y:Str}{px py pos:Pos}{k:Nat}(hc:X.calm=true) (hN:X.N.Nodup) (hi:X.N[i]?=some x) (hj:X.N[j]?=some y) (hx:Loc X.env.scope x) (hy:Loc X.env.scope y)
  (hfx:X.fn x=true∨X.env.scope.names.lookup x=some .local) (hfy:X.fn y=true∨X.env.scope.names.lookup y=some .local):
  PG X (.Tuple [.Name x px, .Name y py] k pos) (agA K 2 (Sx (pU i) (Sx (pU j) agy))):=by
 subst hK;exact aif hc (Yl (cO hN hi hx hfx) (Yl (cO hN hj hy hfy) agz))
end
theorem bQ {te:TE}{D:Ends}{σ:L2.St}{H:Hp}(h:te σ H D.rt):Iv te D σ H:=h
theorem qG {t u:TS}{D:Ends}{σ:L2.St}{H:Hp}(h:t {D with nx:=u D} σ H):zf t u D σ H:=h
abbrev El (t:TE) (σ:L2.St) (H:Hp) (out:List V):Prop:=∀Q:VK,(∀H' D,Same H H'→H D=none→H' D=some (.lst out)→Q (.ref D) H')→t σ H Q
theorem take_snoc {α:Type}:∀{l:List α}{i:Nat}{x:α},l[i]?=some x→l.take (i+1)=l.take i++[x]
 |[],i,x,h=>by simp at h
 |a::l,0,x,h=>by
  have e:a=x:=Option.some.inj h;subst e;rfl
 |a::l,i+1,x,h=>by
  have ih:=take_snoc (l:=l) (i:=i) (x:=x) h;show a::l.take (i+1)=a::l.take i++[x];rw[ih];rfl
section
variable {K:PySem.W.Frag}{ti te:TE}{tt:TT}{vs:List Nat}{i:Nat}{σ:L2.St}{H:Hp}{a:Addr}{xs out:List V}
theorem Bh (hi:Ev ti σ H (.ref a)) (ha:dR K H a xs) (hl:xs.length≤30000) (ho:out.length=xs.length) (hw:∀v,wipe ((wipe σ vs).set i (some v)) vs=wipe σ vs)
  (he:∀(j:Nat) x y H',xs[j]?=some x→out[j]?=some y→Same H H'→Eg te ((wipe σ vs).set i (some x)) H' y):El (Ti (Sy K ti) (pU i) agV te vs) σ H out:=by
 intro Q k;refine hi _ ⟨a,rfl,⟨_,ha⟩,fun D hD=>?_⟩;refine ab7 (xs:=xs) (fun j H'=>Acc H D (out.take j) H') (Acc.start hD) (fun j H' _ acc=>acc.same.seq ha) (fun j x H' hx acc=>?_) (fun H' acc=>?_)
 ·have hj:j<out.length:=by
   rw[ho];exact(List.getElem?_eq_some_iff.mp hx).1
  refine⟨hw _,?_⟩;refine he j x _ H' hx (List.getElem?_eq_getElem hj) acc.same _ fun H2 s2=>⟨_,s2 _ _ acc.lst,?_,?_⟩
  ·show _<16777216
   have:=List.length_take_le j out;omega
  ·rw[take_snoc (List.getElem?_eq_getElem hj)]
   exact acc.push s2 hD _
 ·rw[←ho,List.take_length]at acc
  exact k H' D acc.same hD acc.lst
theorem R8 {bs:List Bool}{t:TE}(h:El t σ H (bs.map V.bl)):Eg (tCB (ajp K) (gB t pR)) σ H (.bl (bs.all id)):=fun Q k=>h _ fun H' D s hD hl=>⟨D,bs,rfl,dR.of hl,k H' s⟩
end
section
variable {K:PySem.W.Frag}{ta:TA}{te:TE}{vs:List Nat}{i j:Nat}{σ:L2.St}{H:Hp}{a b:Addr}{xs ys out:List V}
theorem aiF (hi:∀R:List V→Hp→Prop,R [.ref a, .ref b] H→ta σ H R) (ha:dR K H a xs) (hb:dR K H b ys) (hl:xs.length≤30000) (hxy:xs.length=ys.length) (ho:out.length=xs.length) (hw:∀v u,wipe (((wipe σ vs).set i (some v)).set j (some u)) vs=wipe σ vs)
  (he:∀(n:Nat) x y z H',xs[n]?=some x→ys[n]?=some y→out[n]?=some z→Same H H'→Eg te (((wipe σ vs).set i (some x)).set j (some y)) H' z):El (Ti (aju K ta) (agA K 2 (Sx (pU i) (Sx (pU j) agy))) agV te vs) σ H out:=by
 intro Q k;refine hi _ ⟨a,b,xs,ys,rfl,ha,hb,fun D hD=>?_⟩;refine aiE hxy (fun n H'=>Acc H D (out.take n) H') (Acc.start hD) (fun n H' _ acc=>⟨acc.same.seq ha,acc.same.seq hb⟩) (fun n x y H' t hx hy acc ht=>?_) (fun H' acc=>?_)
 ·have hn:n<out.length:=by
   rw[ho];exact(List.getElem?_eq_some_iff.mp hx).1
  have s2:Same H' (upd H' t (.tup [x,y])):=aZ ht;refine⟨t,_,rfl, .inl (.inl aq),rfl,_,_,rfl,_,_,rfl,rfl,hw _ _,?_⟩;refine he n x y _ _ hx hy (List.getElem?_eq_getElem hn) (acc.same.trans s2) _ fun H2 s3=>⟨_,s3 _ _ (s2 _ _ acc.lst),?_,?_⟩
  ·show _<16777216
   have:=List.length_take_le n out;omega
  ·rw[take_snoc (List.getElem?_eq_getElem hn)]
   exact acc.push (s2.trans s3) hD _
 ·rw[←ho,List.take_length]at acc
  exact k H' D acc.same hD acc.lst
end
theorem vEq (a b:Nat):decide (V.int (a:Int)=V.int (b:Int))=decide (a=b):=by
 rw[Bool.eq_iff_iff,decide_eq_true_iff,decide_eq_true_iff,V.int.injEq];omega
theorem iLt (a b:Nat):decide ((a:Int)<(b:Int))=decide (a<b):=by
 rw[Bool.eq_iff_iff,decide_eq_true_iff,decide_eq_true_iff];omega
theorem iLe (a b:Nat):decide ((a:Int)≤(b:Int))=decide (a≤b):=by
 rw[Bool.eq_iff_iff,decide_eq_true_iff,decide_eq_true_iff];omega
section
variable {c:TT}{t t2 u:TS}{te:TE}{D:Ends}{σ:L2.St}{H:Hp}{b:Bool}{i:Nat}{v:V}
theorem ad5 (h:Tv c σ H b) (ht:b=true→t D σ H) (hu:b=false→u D σ H):abt c t u D σ H:=h _ (by
 cases b
 ·exact hu rfl
 ·exact ht rfl)
theorem ad6 (h:Tg c σ H b) (ht:b=true→∀H',Same H H'→t D σ H') (hu:b=false→∀H',Same H H'→u D σ H'):abt c t u D σ H:=h _ fun H' s=>(by
 cases b
 ·exact hu rfl H' s
 ·exact ht rfl H' s)
theorem cD (h:Tv c σ H b) (ht:b=true→t {D with nx:=u D} σ H) (hu:b=false→u D σ H):zf (abt c t adv) u D σ H:=ad5 h ht hu
theorem Og (h:Tg c σ H b) (ht:b=true→∀H',Same H H'→t {D with nx:=u D} σ H') (hu:b=false→∀H',Same H H'→u D σ H'):zf (abt c t adv) u D σ H:=ad6 h ht hu
theorem dF (h:te σ H fun x H1=>u D (σ.set i (some x)) H1):zf (Qi te (pU i)) u D σ H:=h
theorem nj (h:Ev te σ H v) (k:u D (σ.set i (some v)) H):zf (Qi te (pU i)) u D σ H:=h _ k
theorem jx (h:Ev te σ H v) (k:D.rt v H):Iv te D σ H:=h _ k
theorem ae4 (h:Eg te σ H v) (k:∀H',Same H H'→D.rt v H'):Iv te D σ H:=h _ k
end
section
variable {K:PySem.W.Frag}{f:Str}{ta tv:TE}{u:TS}{D:Ends}{σ:L2.St}{H:Hp}{a C dx:Addr}{fs:List (Str×V)}{y:V}
theorem lU (hv:Ev tv σ H y) (ha:Ev ta σ H (.ref a)) (hi:H a=some (.ins C dx fs)) (cl:Cls K C) (nf:cI K C f) (hl:fs.length<1000) (k:u D σ (upd H a (.ins C dx (bF f y fs)))):zf (agJ K ta tv f) u D σ H:=
 hv _ (ha _ ⟨a,C,dx,fs,rfl,hi,cl,nf,hl,k⟩)
theorem HD (hv:Ev tv σ H y) (ha:Ev ta σ H (.ref a)) (hi:H a=some (.ins C dx fs)) (cl:Cls K C) (nf:cI K C f) (hl:fs.length<1000) (k:D.nx σ (upd H a (.ins C dx (bF f y fs)))):agJ K ta tv f D σ H:=
 hv _ (ha _ ⟨a,C,dx,fs,rfl,hi,cl,nf,hl,k⟩)
end
theorem aj {i:Nat}{σ:L2.St}{H:Hp}{v:V}(h:σ[i]?=some (some v)):Ev (Er i) σ H v:=fun Q q=>⟨v,h,q⟩
theorem aW {K:PySem.W.Frag}{f:Str}{ta:TE}{σ:L2.St}{H:Hp}{a C dx:Addr}{fs:List (Str×V)}{v:V}(ha:Ev ta σ H (.ref a)) (hi:H a=some (.ins C dx fs)) (cl:Cls K C) (nf:cI K C f) (hl:fs.lookup f=some v):Ev (Yo K ta f) σ H v:=
 fun Q q=>ha _ ⟨a,C,dx,fs,v,rfl,hi,cl,nf,hl,q⟩
end Hk
end
section
namespace Hs
open PySem PySem.Spec PyProof.Rows L2 Hk
def aiG (td:TE):TI:=fun σ H R=>td σ H fun x H1=>∃d kvs,x= .ref d∧H1 d=some (.dK kvs)∧∀o,R (Itk d o kvs) (upd H1 d (.cM o (.dK kvs)))
section
variable {X:Cx}{tg e:Expr}{td:TE}
theorem afO (he:PE X e td):PI X tg e (aiG td):=by
 intro pins s σ H R I h;refine cN (he pins s σ H _ I h) fun u s1 ⟨x,H1,I1,rx,d,kvs,ex,hd,q⟩=>?_
 subst ex;obtain rfl:u=Value.ref d:=rx;obtain⟨od,I2⟩:=I1.lock hd trivial;obtain⟨hs,hgd,hx,es,ep,vs,hdt,hsz,kv,hm⟩:=I2.Tq aq;refine Cr hs hgd hx hdt (R6 (tk:=s1.toks) I2 _ (Tr _ hdt) ⟨_,Heap.get?_push_size _ rfl,rfl,?_⟩ (q od));rw[hsz]<;>rfl
end
theorem Z4 {prog:Program}{w:World}{A:Around}{E:Value→Shared→Prop}{s:Shared}{T:String}{r d:Addr}{n:Nat}{P:Nat→Value→Prop}{OK:Heap→Prop}{R:List Value→Shared→Prop}(K:PySem.W.KdlSrc prog w T r d n P OK) (hh:A.handled=none) (hok:OK s.heap) (hn:n≤sizeLine)
  (h:∀(h':Heap) (tk:Nat) (acc:Array Value),(∀b o,s.heap.get? b=some o→h'.get? b=some o)→s.heap.objs.size≤h'.objs.size→ItemsOf P acc n→R acc.toList {s with heap:=h',toks:=tk}):
  wpAny (model prog w) A (collect (.ref r)) R E s:=by
 have lt:=K.there _ hok;unfold collect;refine wpAny_bind (wpAny_runValue (codeAny_builtin entry_proto_collect' ?_));rw[Around.under_plainId PySem.F.plain_proto_collect _];show wpAny _ A.in1 (newList [] >>= fun l=>again (.builtin "list.__iadd__" ⟨[l, .ref r],[]⟩)) _ _ s;refine wpAny_bind (wpAny_newObj_type ?_);refine wpAny_pure ⟨plainId_quiet PySem.F.plain_list_iadd _,codeAny_builtin entry_list_iadd' ?_⟩;rw[Around.under_plainId PySem.F.plain_list_iadd _];have h1:(s.heap.push {cls:= .type "list",data:= .seq ([]:List Value).toArray}).get? s.heap.objs.size=some {cls:= .type "list",data:= .seq #[]}:=Heap.get?_push_size _ rfl;show wpAny _ A.in1 (Builtin.List.listExtendWith (.ref s.heap.objs.size) (.ref r) (.ref s.heap.objs.size)) _ _ _;refine wpAny_mono (PySem.W.kdl_extend (A:=A) (s:={s with heap:=s.heap.push {cls:= .type "list",data:= .seq ([]:List Value).toArray}})
  (R:=fun q s'=>∃(h':Heap) (tk:Nat) (acc:Array Value) (c:Nat),q= .ok (.ret (.ref s.heap.objs.size))∧s'={s with heap:=h',toks:=tk}∧(∀b o,s.heap.get? b=some o→h'.get? b=some o)∧h'.get? s.heap.objs.size=some {cls:= .type "list",dict:=none,data:= .seq acc c,slots:= #[]}∧ItemsOf P acc n)
  K hh (K.keep _ _ hok fun b _ o e=>Heap.get?_push_of_some _ e) s.heap.objs.size (Nat.ne_of_gt lt.1) (Nat.ne_of_gt lt.2) (.ref s.heap.objs.size) 0 h1
  (fun h' tk acc c hk hS hacc=>⟨h',tk,acc,c,rfl,rfl,fun b o e=>hk b o (Nat.ne_of_lt (Heap.lt_size e)) (Heap.get?_push_of_some _ e),hS,hacc⟩) hn) (fun fin s' x=>?_) fun e s' x=>?_
 ·have go:∀(q:Result) (s2:Shared),(∃(h':Heap) (tk:Nat) (acc:Array Value) (c:Nat),q= .ok (.ret (.ref s.heap.objs.size))∧s2={s with heap:=h',toks:=tk}∧(∀b o,s.heap.get? b=some o→h'.get? b=some o)∧h'.get? s.heap.objs.size=some {cls:= .type "list",dict:=none,data:= .seq acc c,slots:= #[]}∧ItemsOf P acc n)→
    q= .ok (.ret (.ref s.heap.objs.size))∧wpAny (model prog w) A (load s.heap.objs.size >>= fun o=>match o.data with| .seq xs _=>pure xs.toList|_=>unsupported "internal:collect") R E s2:=by
   rintro q s2 ⟨h',tk,acc,c,e,rfl,hk,hS,hacc⟩;exact⟨e,wpAny_bind (wpAny_load hS (wpAny_pure (h h' tk acc hk (Nat.le_of_lt (Heap.lt_size hS)) hacc)))⟩
  cases fin with
  |done f=>
   obtain⟨e,g⟩:=go _ _ x;cases e;exact g
  |again c=>
   refine⟨x.1,codeAny_mono x.2 fun q s2 y=>?_⟩;obtain⟨rfl,g⟩:=go _ _ y;exact g
 ·obtain⟨_,_,_,_,e',_⟩:=x
  cases e'
theorem YS {X:Cx}{pins:List (Addr×Obj)}{σ:L2.St}{H:Hp}{s:Shared}{Q:VK}{A:Around}{E:Value→Shared→Prop}(I:Inv X pins σ H s){h':Heap}{tk:Nat}(hk:∀b o,s.heap.get? b=some o→h'.get? b=some o) (hgt:s.heap.objs.size≤h'.objs.size){us:List Value}{ns:List Int}
  (hi:IntsAre us ns) (h64:ns.length<64) (q:∀(ns':List Int) (p:Addr),ns'.Perm ns→ns'.Pairwise (·≤·)→H p=none→Q (.ref p) (upd H p (.lst (ns'.map V.int)))){R:Value→Shared→Prop}
  (hR:∀v s',EP X pins σ Q v s'→R v s'):
  wpAny (model X.prog X.w) A (newList us >>= fun l=>holding [l] (call (.builtin "list.sort") [l] []) >>= fun _=>pure (PySem.Fin.done (.ret l))) (fun f s'=>∃v,f= .done (.ret v)∧R v s') E {s with heap:=h',toks:=tk}:=by
 have hlen:=hi.length;refine wpAny_bind (wpAny_newList ?_ (by rw[hlen];exact K4 h64));have ho:(h'.push (seqObj "list" us.toArray 0)).get? h'.objs.size=some (seqObj "list" us.toArray 0):=Heap.get?_push_size _ rfl;refine wpAny_bind (wpAny_holding (wpAny_call_entry slot_list_sort ⟨_,ho,rfl⟩ entry_list_sort (list_sort_tree ho hi (by rw[hlen];exact h64) fun out ns' h1 h2 h3=>⟨.none,rfl,?_⟩) (args_list_sort _)));obtain⟨ep,he'⟩:=sortedHeap_at (vs:=us) (out:=out) ho;have hl':(ns'.map V.int).length≤sizeLine:=by rw[List.length_map,h2.length_eq];exact K4 h64
 refine wpAny_pure ⟨_,rfl,hR _ _ ⟨.ref h'.objs.size,upd H h'.objs.size (.lst (ns'.map V.int)),I.laid (t':=tk) (fun b o e=>?_) hgt ⟨hl',out.toList,ep,zP h1,he'⟩,rfl,q ns' _ h2 h3 (I.hok.fresh hgt)⟩⟩;have:=hk b o e;rw[sortedHeap_old (Nat.ne_of_lt (Heap.lt_size this)) (by rw[size_push'];exact Nat.lt_succ_of_lt (Heap.lt_size this))];exact Heap.get?_push_of_some _ this
def afP:List V→Hp→VK→Prop:=fun vs H Q=>∃(a:Addr) (kvs:List (L2.Key×V)) (ns:List Int),vs=[V.ref a]∧Rd H a (.dK kvs)∧kvs.map (·.1)=ns.map Sum.inl∧ns.length<64∧
 ∀(ns':List Int) (p:Addr),ns'.Perm ns→ns'.Pairwise (·≤·)→H p=none→Q (.ref p) (upd H p (.lst (ns'.map V.int)))
theorem acd {X:Cx}{pins:List (Addr×Obj)}{σ:L2.St}{H:Hp}{s:Shared}{Q:VK}{T:String}{r d:Addr}{n:Nat}{P:Nat→Value→Prop}{OK:Heap→Prop}(K:PySem.W.KdlSrc X.prog X.w T r d n P OK) (hh:X.A.handled=none) (hok:OK s.heap) (I:Inv X pins σ H s){ns:List Int}(hl:ns.length=n)
  (hP:∀j v,P j v→∃m t,ns[j]?=some m∧v=Value.int m t) (h64:ns.length<64) (q:∀(ns':List Int) (p:Addr),ns'.Perm ns→ns'.Pairwise (·≤·)→H p=none→Q (.ref p) (upd H p (.lst (ns'.map V.int)))):
  wpAny (model X.prog X.w) X.A (call (.builtin "sorted") [.ref r]) (EP X pins σ Q) X.xe s:=by
 refine Calls.call_function_entry kind_sorted plain_sorted entry_sorted (args_sorted1 _) ?_;unfold Builtin.«sorted»;refine wpAny_bind (m:=checkCount "sorted" 1 1 _) (wpAny_pure ?_);refine wpAny_bind (Z4 (A:=X.A.in1) K hh hok (by rw[←hl];exact K4 h64) fun h' tk acc hk hgt hacc=>?_);have hi:IntsAre acc.toList ns:=by
  have:∀(us:List Value) (ms:List Int),us.length=ms.length→(∀(j:Nat) v,us[j]?=some v→∃m t,ms[j]?=some m∧v=Value.int m t)→IntsAre us ms:=by
   intro us
   induction us with
   |nil=>
    intro ms e _;cases ms with
    |nil=>exact .nil
    |cons a b=>simp at e
   |cons u us ih=>
    intro ms e g;cases ms with
    |nil=>simp at e
    |cons a b=>
     obtain⟨m,t,e1,e2⟩:=g 0 u rfl;have e1:a=m:=Option.some.inj e1;subst e1 e2;exact .cons _ _ (ih b (by simpa using e) fun j v e=>g (j+1) v e)
  refine this _ _ (by rw[Array.length_toList,hl];exact hacc.1) fun j v e=>hP j v (hacc.2 j v (by rw[←Array.getElem?_toList];exact e))
 exact wpAny_mono (YS I hk hgt hi h64 q (fun _ _ z=>z)) (fun f s' ⟨v,e,z⟩=>by subst e;exact⟨v,rfl,z⟩) fun _ _ z=>z
theorem ace {X:Cx}(hc:X.calm=true):rW X (.builtin "sorted") afP:=by
 intro pins s σ H vs us Q I r h;obtain⟨a,kvs,ns,rfl,hd,hk,h64,q⟩:=h;rw[Vals.IK r];obtain⟨z,hs,ws,rel,dd⟩:=Cm I.hok hd;obtain⟨ep,hat⟩:=dd.dictAt;have hlen:kvs.length=ns.length:=by
  have:=congrArg List.length hk
  rwa [List.length_map,List.length_map]at this
 refine acd (PySem.W.kdl_dict (knd:=dJ X.prog X.w) (kvs:=ws) (ep:=ep) hs) (I.ok.hd hc) hat I (by rw[←hlen];exact Paired.length rel) (fun j v hv=>?_) h64 q;obtain⟨k,x,hx,hkv⟩:=hv;have hj:j<kvs.length:=by
  rw[show kvs.length=ws.length from Paired.length rel];exact(List.getElem?_eq_some_iff.mp hx).1
 obtain⟨⟨k',v'⟩,hkv'⟩:∃p,kvs[j]?=some p:=⟨kvs[j],List.getElem?_eq_getElem hj⟩
 obtain⟨u,hu,ru⟩:=ZD rel hkv';rw[hx]at hu;cases hu;have e1:(kvs.map (·.1))[j]?=some k:=by rw[List.getElem?_map,hkv'];rfl
 rw[hk,List.getElem?_map]at e1;obtain⟨m,hm,em⟩:=Option.map_eq_some_iff.mp e1;subst em;obtain⟨t,et⟩:∃t,v=Value.int m t:=by
  rcases fH (show zO (Sum.inl m) v=true from hkv)with⟨i,t,e,e'⟩|⟨x,t,e,e'⟩
  ·cases e
   exact⟨t,e'⟩
  ·cases e
 exact⟨m,t,hm,et⟩
theorem aiH {prog:Program}{w:World}{d:Addr}{o:Obj}{es:Array DictEntry}{ep:Nat}(lo:(d==sysModules)=false) (hx:o.ExactDict) (hdt:o.data= .dict es ep):
  PySem.W.KdlSrc prog w "dict" d d es.size (fun i v=>∃en,es[i]?=some en∧v=en.key) (fun h=>h.get? d=some o) where
 type:=fun s hm=>⟨o,hm,hx.1⟩
 there:=fun h hm=>⟨Heap.lt_size hm,Heap.lt_size hm⟩
 keep:=fun h h' hm hk=>hk d (.inl rfl) o hm
 notList:=by decide
 notTuple:=by decide
 hint:=fun A E s Q hm hq=>PySem.W.kdl_hint_dict ⟨o,hm,hx.1⟩ hq
 iter:=fun A s hh hm=>⟨_,fun i h=>h.IsKeyIter s.heap.objs.size d i es.size ep∧h.get? d=some o,(fun E Q hq=>Cr lo hm hx hdt hq),{
  sub:=fun b hb=>by simp at hb;simp[hb]
  frame:=fun i h h' st hk=>⟨st.1.at fun oi e=>hk _ (by simp) oi e,hk d (by simp) o st.2⟩
  item:=fun i s2 Q E hi st hq=>by
   obtain⟨en,hen⟩:∃en,es[i]?=some en:=⟨es[i],Array.getElem?_eq_getElem hi⟩
   refine FP st.1 st.2 hdt rfl hen fun h' st' sb=>?_
   exact hq en.key h' _ ⟨en,hen,rfl⟩ ⟨st',(sb.2 d (Nat.ne_of_lt (Heap.lt_size hm))).trans st.2⟩ fun b ob hb e=>(sb.2 b (by simpa using hb)).trans e
  done:=fun s2 Q E st hq=>zQ hh st.1 st.2 hdt rfl (Nat.le_refl _) fun h' eb=>hq h' _ fun b ob hb e=>eb b ob (by simpa using hb) e
  self:=fun i s2 Q E st hq=>by
   refine wpAny_pyIter_slot st.1.typeIs F.slot_dict_keyiterator_iter (wpAny_call_entry F.slot_dict_keyiterator_iter st.1.typeIs F.entry_dict_keyiterator_iter ?_ (F.args_dict_keyiterator_iter_1 _));show wpAny _ _ (ret (.ref _)) _ _ s2;exact wpAny_pure ⟨_,rfl,"dict_keyiterator",_,st.1.typeIs,F.slot_dict_keyiterator_next.lookup,hq⟩},⟨⟨_,Heap.get?_push_size _ rfl,rfl,rfl⟩,Heap.get?_push_of_some _ hm⟩⟩
def aiI:List V→Hp→VK→Prop:=fun vs H Q=>∃(a:Addr) (kvs:List (List L2.Key×V)),vs=[V.ref a]∧Rd H a (.dT kvs)∧
 ∀(p:Addr) (ts:List Addr),H p=none→ts.length=kvs.length→(∀(i:Nat) k v t,kvs[i]?=some (k,v)→ts[i]?=some t→H t=some (.tup (k.map kV)))→Q (.ref p) (upd H p (.lst (ts.map V.ref)))
theorem Ul {X:Cx}(hc:X.calm=true):rW X (.type "list") aiI:=by
 intro pins s σ H vs us Q I r h;obtain⟨a,kvs,rfl,hd,q⟩:=h;rw[Vals.IK r];obtain⟨z,hs,xs,pr,o,es,ep,ho,hx,hdt,he,hn⟩:=(show fD X.prog X.w H s.heap a (.dT kvs)from adI I.hok hd);have l1:es.size=xs.length:=by
  have:=congrArg List.length he
  rwa [Array.length_toList,List.length_map]at this
 have l2:kvs.length=xs.length:=Paired.length pr;refine PySem.W.kdl_call (aiH (prog:=X.prog) (w:=X.w) hs hx hdt) (I.ok.hd hc) ho (by rw[l1,←l2];exact z) fun h' tk acc c' hk hD hacc=>?_
 have hv:Vals ((xs.map fun x=>x.2.1).map V.ref) acc.toList:=by
  have ea:acc.toList=xs.map fun x=>Value.ref x.2.1:=by
   apply List.ext_getElem?;intro i;by_cases ci:i<es.size
   ·obtain⟨v,hv⟩:∃v,acc[i]?=some v:=⟨acc[i]'(by rw[hacc.1];exact ci),Array.getElem?_eq_getElem _⟩
    obtain⟨en,hen,ev⟩:=hacc.2 i v hv;rw[Array.getElem?_toList,hv,List.getElem?_map,ev];have e2:es.toList[i]?=some en:=by rw[Array.getElem?_toList];exact hen
    rw[he,List.getElem?_map]at e2;obtain⟨x,hx1,hx2⟩:=Option.map_eq_some_iff.mp e2;rw[hx1,←hx2];rfl
   ·rw[List.getElem?_eq_none (by rw[Array.length_toList,hacc.1];omega),List.getElem?_eq_none (by rw[List.length_map];omega)]
  rw[ea];clear ea hacc hD l1 l2 he hn pr
  induction xs with
  |nil=>exact .nil
  |cons x xs ih=>exact .cons rfl ih
 have hfr:H s.heap.objs.size=none:=I.hok.fresh (Nat.le_refl _);refine⟨.ref s.heap.objs.size,_,I.laid (a:=s.heap.objs.size) (o:= .lst ((xs.map fun x=>x.2.1).map V.ref)) (t':=tk) hk (Nat.le_refl _) ⟨by rw[List.length_map,List.length_map,←l2];exact z,acc.toList,c',hv,hD⟩,rfl,q _ _ hfr (by rw[List.length_map,l2]) fun i k v t e1 e2=>?_⟩;obtain⟨b,hb,g1,g2,g3⟩:=Ql pr e1;rw[List.getElem?_map,hb]at e2;cases e2;exact g2
def aiJ (K8:List (TE×TE)):TE:=fun σ H Q=>∀p,H p=none→R5 K8 σ (upd H p (.dT [])) fun ps H2=>H2 p=some (.dT [])∧∃(b:Addr) (k:List L2.Key) (v:V),ps=[(.ref b,v)]∧H2 b=some (.tup (k.map kV))∧Q (.ref p) (upd H2 p (.dT [(k,v)]))
theorem afQ {X:Cx}{pos:Pos}{keys:List (Option Expr)}{values:List Expr}{K8:List (TE×TE)}(hu:X.A.units+1<cLine) (h:PPs X pos keys values K8) (hall:keys.all (·.isSome)=true) (hl:keys.length=values.length) (h0:keys≠[])
  (h15:keys.length≤15):PE X (.Dict keys values pos) (aiJ K8):=by
 intro pins s σ H Q I q;have hn:=I.hok.fresh (Nat.le_refl s.heap.objs.size);have I1:=I.laid (a:=s.heap.objs.size) (o:= .dT []) (h':=s.heap.push {cls:= .type "dict",data:= .dict #[]}) (t':=s.toks) (fun _ _ q=>Heap.get?_push_of_some _ q) (Nat.le_refl _) (afx s.heap I.big);have hpl:=pairTrees_length keys values X.env pos hall hl;have hp0:pairTrees keys values X.env pos≠[]:=by
  intro he;rw[he]at hpl;exact h0 (List.length_eq_zero_iff.mp hpl.symm)
 rw[arm_eval_Dict,zip_pairTrees keys values X.env pos hall hl,dictDisplay_pairs _ hp0 (by omega)];refine wpAny_bind (wpAny_standAt (wpAny_bind ?_));unfold subDict;refine wpAny_bind (wpAny_alloc ?_);refine wpAny_bind (wpAny_holding ?_);rw[if_pos (by rw[hpl];exact h15)];refine wpAny_bind (cN (h pins _ σ _ _ I1 (q _ hn)) fun ws s2 ⟨ps,H2,I2,rel,e,b,k,v,ep,eb,q2⟩=>?_);subst ep;cases rel with
 | @cons p1 p2 l1 l2 h12 t=>
  cases t;obtain⟨w1,w2⟩:=p2;obtain⟨r1,r2⟩:=h12;obtain rfl:w1=Value.ref b:=r1;refine wpAny_holding ?_;rw[List.forIn_cons];obtain⟨z,hd,xs,rel,dd⟩:=agW I2.hok e;cases rel;refine wpAny_bind (wpAny_bind (wpAny_bind (wpAny_dictSet_heap (hsz:=Nat.zero_le _) (show(tupleKind (dJ X.prog X.w)).room X.A from Nat.lt_of_le_of_lt (Nat.le_succ _) hu) (Cp I2.hok eb) dd fun h' QL hs=>wpAny_pure ?_)));dsimp only;rw[List.forIn_nil];obtain⟨q0,es,ep',hq,g2,g3,g4,_,g5⟩:=QL;refine wpAny_pure (wpAny_pure (wpAny_pure (wpAny_pure ⟨.ref s.heap.objs.size,_,FJ (ob:= .dT [(k,v)]) I2 (by rw[e];exact True.intro) hs ⟨q0,hq⟩ ⟨?_,hd,_,?_,q0,es,ep',hq,g2,g3,g4,g5⟩,rfl,q2⟩)))
  ·show 1≤sizeLine;decide
  ·refine .cons ⟨rfl,?_,r2⟩ .nil
   rw[aJ (eX eb e (fun z=>nomatch z))];exact eb
end Hs
end
section
namespace Hs
open PySem PyProof.Rows
section
variable (M:Model) (Γ:PySem.Ctx) (s s':Shared) (kd:SortKind)
def pq {α:Type}(m:StateT SortSt Sem α):Prop:=∀(st:SortSt) (p':Pos) (Q:α×SortSt→Pos→Shared→Prop),kindOf st=kd→Sem.wp M Γ (m.run st) Q (fun _ _ _=>False) p' s'→
 ∀p,Sem.wp M Γ (m.run st) (fun x _ s1=>s1=s∧kindOf x.2=kd∧∃p1,Q x p1 s') (fun _ _ _=>False) p s
end
section
variable {M:Model}{Γ:PySem.Ctx}{s s':Shared}{kd:SortKind}{α β:Type}
theorem HF {a:α}:pq M Γ s s' kd (pure a:StateT SortSt Sem α):=by
 intro st p' Q hk h p;rw[StateT.run_pure,Sem.wp_pure']at h⊢;exact⟨rfl,hk,p',h⟩
theorem YT {m:StateT SortSt Sem α}{k:α→StateT SortSt Sem β}(hm:pq M Γ s s' kd m) (hk:∀a,pq M Γ s s' kd (k a)):pq M Γ s s' kd (m >>= k):=by
 intro st p' Q he h p;rw[StateT.run_bind,Sem.wp_bind']at h⊢;refine Sem.wp_mono M Γ _ (fun x p1 s1 g=>?_) (fun _ _ _ e=>e) p s (hm st p' _ he h p);obtain⟨e1,e2,p2,g⟩:=g;subst e1;exact hk x.1 x.2 p2 Q e2 g p1
theorem ahl:pq M Γ s s' kd (get:StateT SortSt Sem SortSt):=by
 intro st p' Q hk h p;rw[StateT.run_get,Sem.wp_pure']at h⊢;exact⟨rfl,hk,p',h⟩
theorem LC {k:SortSt→StateT SortSt Sem β}(hk:∀st,kindOf st=kd→pq M Γ s s' kd (k st)):pq M Γ s s' kd (get >>= k):=by
 intro st p' Q he h p;rw[StateT.run_bind,Sem.wp_bind',StateT.run_get,Sem.wp_pure']at h⊢;exact hk st he st p' Q he h p
theorem zp {f:SortSt→SortSt}(hf:∀st,kindOf (f st)=kindOf st):pq M Γ s s' kd (modify f:StateT SortSt Sem PUnit):=by
 intro st p' Q hk h p;rw[StateT.run_modify,Sem.wp_pure']at h⊢;exact⟨rfl,(hf st).trans hk,p',h⟩
theorem ahm {st2:SortSt}(hf:kindOf st2=kd):pq M Γ s s' kd (set st2:StateT SortSt Sem PUnit):=by
 intro st p' Q hk h p;rw[StateT.run_set,Sem.wp_pure']at h⊢;exact⟨rfl,hf,p',h⟩
theorem afR {t:String}:pq M Γ s s' kd (liftM (rule t):StateT SortSt Sem Unit):=by
 intro st p' Q hk h p;have e:((liftM (rule t):StateT SortSt Sem Unit).run st)=(rule t >>= fun u=>pure (u,st)):=by
  show((StateT.lift (rule t):StateT SortSt Sem Unit).run st)=_;rw[StateT.run_lift]
 rw[e,Sem.wp_bind',Sem.wp_cmd_rule,Sem.wp_pure']at h⊢;exact⟨rfl,hk,p',h⟩
theorem acf {t:String}:pq M Γ s s' kd (liftM (unsupported t:Sem α):StateT SortSt Sem α):=by
 intro st p' Q hk h p;have e:((liftM (unsupported t:Sem α):StateT SortSt Sem α).run st)=(unsupported t >>= fun u=>pure (u,st)):=by
  show((StateT.lift (unsupported t:Sem α):StateT SortSt Sem α).run st)=_;rw[StateT.run_lift]
 rw[e,Sem.wp_bind',Sem.wp_cmd_unsupported]at h;exact h.elim
theorem YW {f:Nat→β→StateT SortSt Sem (ForInStep β)}(hf:∀i b,pq M Γ s s' kd (f i b)):∀(l:List Nat) (b:β),pq M Γ s s' kd (forIn l b f)
 |[],b=>by rw[List.forIn_nil];exact HF
 |x::rest,b=>by
  rw[List.forIn_cons];refine YT (hf x b) fun r=>?_
  cases r with
  |done b'=>exact HF
  |yield b'=>exact YW hf rest b'
theorem ad7 {a c:Nat}{b:β}{f:Nat→β→StateT SortSt Sem (ForInStep β)}(hf:∀i b,pq M Γ s s' kd (f i b)):pq M Γ s s' kd (forIn [a:c] b f):=by
 rw[Std.Legacy.Range.forIn_eq_forIn_range'];exact YW hf _ b
theorem afS {arr:Array Keyed}{i:Nat}:pq M Γ s s' kd (elem' arr i):=by
 rw[elem'_eq]
 split
 ·exact HF
 ·exact acf
theorem ahn {c:Prop} [Decidable c] {m n:StateT SortSt Sem α}(hm:pq M Γ s s' kd m) (hn:pq M Γ s s' kd n):pq M Γ s s' kd (if c then m else n):=by
 split
 ·exact hm
 ·exact hn
end
section
variable {M:Model}{Γ:PySem.Ctx}{s s':Shared}{kd:SortKind}
theorem aiK (hc:∀(x y:Value) (p':Pos) (Q:Bool→Pos→Shared→Prop) (E:Value→Pos→Shared→Prop),Sem.wp M Γ (keyLt' kd x y) Q E p' s'→∀p,Sem.wp M Γ (keyLt' kd x y) (fun b _ s1=>s1=s∧∃p1,Q b p1 s') (fun _ _ _=>False) p s) (x y:Keyed):pq M Γ s s' kd (lt' x y):=by
 rw[lt'_eq];refine LC fun st hk=>?_
 rw[hk];intro st2 p' Q he h p;have e:∀(k:Except Value Bool→StateT SortSt Sem (Option Bool)),(((liftM ((keyLt' kd x.1 y.1).attempt):StateT SortSt Sem (Except Value Bool)) >>= k).run st2)=((keyLt' kd x.1 y.1).attempt >>= fun r=>(k r).run st2):=by
  intro k;rw[StateT.run_bind];show((StateT.lift ((keyLt' kd x.1 y.1).attempt):StateT SortSt Sem (Except Value Bool)).run st2 >>= _)=_;rw[StateT.run_lift];simp
 rw[e,Sem.wp_bind',Sem.wp_attempt]at h⊢;refine Sem.wp_mono M Γ _ (fun b p1 s1 g=>?_) (fun _ _ _ e=>e.elim) p s (hc x.1 y.1 p' _ _ h p);obtain⟨rfl,p2,g⟩:=g;dsimp only at g⊢;rw[StateT.run_pure,Sem.wp_pure']at g⊢;exact⟨rfl,he,p2,g⟩
end
theorem Z5 {P:Prop}(h:P:=by
  repeat' first
   |with_reducible exact L _ _
   |with_reducible exact afT L _ _
   |with_reducible exact Z6 L _ _
   |with_reducible exact afU L _ _
   |with_reducible exact Um L _
   |with_reducible exact acg L _ _ _ _ _
   |with_reducible exact ach L _ _ _ _ _ _
   |with_reducible exact Z7 L _ _
   |with_reducible exact Z8 L _ _
   |with_reducible exact Z9 L _
   |with_reducible exact Wu L _ _
   |with_reducible exact QV L _ _ _
   |with_reducible exact HF
   |with_reducible exact afR
   |with_reducible exact acf
   |with_reducible exact afS
   |with_reducible refine LC fun st hk=>?_
   |with_reducible refine YT ?_ fun x=>?_
   |with_reducible refine ad7 fun i b=>?_
   |with_reducible exact zp fun st=>rfl
   |(with_reducible refine ahm ?_;assumption)
   |with_reducible exact ahl
   |with_reducible refine ahn ?_ ?_
   |split
   |dsimp only):P:=h
section
variable {M:Model}{Γ:PySem.Ctx}{s s':Shared}{kd:SortKind}(L:∀x y,pq M Γ s s' kd (lt' x y))
include L
theorem afT (i j:Nat):pq M Γ s s' kd (ltAt' i j):=by
 rw[ltAt'_eq];exact Z5
theorem Z6 (i j:Nat):pq M Γ s s' kd (reverseSlice' i j):=by rw[reverseSlice'_eq];exact zp fun st=>rfl
theorem afU (i j:Nat):pq M Γ s s' kd (moveDown' i j):=by rw[moveDown'_eq];exact zp fun st=>rfl
theorem Um (g:Nat):pq M Γ s s' kd (setMinGallop' g):=by rw[setMinGallop'_eq];exact zp fun st=>rfl
theorem Wu (lo n:Nat):pq M Γ s s' kd (countRun' lo n):=by
 rw[countRun'_eq];exact Z5
theorem QV (lo n ok:Nat):pq M Γ s s' kd (binarySort' lo n ok):=by
 rw[binarySort'_eq];exact Z5
theorem acg (left:Bool) (key:Keyed) (arr:Array Keyed) (b i:Nat):pq M Γ s s' kd (beyond' left key arr b i):=by
 unfold beyond';exact Z5
theorem ach (left:Bool) (key:Keyed) (arr:Array Keyed) (b n h:Nat):pq M Γ s s' kd (gallop' left key arr b n h):=by
 rw[gallop'_eq];exact Z5
theorem Z7 (a b:Array Keyed):pq M Γ s s' kd (mergeLo' a b):=by
 rw[mergeLo'_eq];exact Z5
theorem Z8 (a b:Array Keyed):pq M Γ s s' kd (mergeHi' a b):=by
 rw[mergeHi'_eq];exact Z5
theorem Z9 (i:Nat):pq M Γ s s' kd (mergeAt' i):=by
 rw[mergeAt'_eq];exact Z5
theorem Wv:pq M Γ s s' kd sortRuns':=by
 rw[sortRuns'_eq];exact Z5
end
end Hs
end
section
namespace Hs
open PySem PyProof.Rows
open AutoSeq1 (wpAny_loadPart')
open MeetsSeq MeetsSeq2 MeetsSeq3 SeqRoads2 SeqAt
def lexLt:List Nat→List Nat→Bool
 |[],[]=>false
 |[],_::_=>true
 |_::_,[]=>false
 |x::xs,y::ys=>if x=y then lexLt xs ys else decide (x<y)
def IntsAre (vs:Array Value) (xs:List Nat):Prop:=vs.size=xs.length∧∀j (h:j<xs.length),∃t,vs[j]?=some (.int (xs[j]:Nat) t)
theorem aci (xs ys:List Nat) (i:Nat) (h1:i<xs.length) (h2:i<ys.length):lexLt (xs.drop i) (ys.drop i)=if xs[i]=ys[i]then lexLt (xs.drop (i+1)) (ys.drop (i+1))else decide (xs[i]<ys[i]):=by
 rw[List.drop_eq_getElem_cons h1,List.drop_eq_getElem_cons h2,lexLt]
theorem ad8 (l b:Addr) (items items2:Array Value) (n n2:Nat) (dd dd2:Option Addr) (sl sl2:Array (Option Value)) (xs ys:List Nat) (h1:IntsAre items xs) (h2:IntsAre items2 ys) (hs:xs.length=ys.length) (k:Nat):
  ∀i:Nat,items.size-i=k→Meets (Builtin.«list.__eq__.loop» ⟨[.ref l, .ref b,rawInt i,rawInt 0],[]⟩)
   (fun A R s=>s.heap.get? l=some {cls:= .type "list",dict:=dd,data:= .seq items n,slots:=sl}∧s.heap.get? b=some {cls:= .type "list",dict:=dd2,data:= .seq items2 n2,slots:=sl2}∧
    R (.ok (.ret (.bool (lexLt (xs.drop i) (ys.drop i))))) s):=by
 have e1:=h1.1;have e2:=h2.1
 induction k with
 |zero=>
  intro i hk prog w A R s h;obtain⟨hp,g,d,tk,os⟩:=s;obtain⟨hl,hb,h⟩:=h
  wp_walk using wpAny_loadPart' hl,wpAny_loadPart' hb
  have hi1:items[((i:Nat):Int).toNat]?=none:=by simp;omega
  have hi2:items2[((i:Nat):Int).toNat]?=none:=by simp;omega
  have hd:xs.drop i=[]:=by simp;omega
  have hd2:ys.drop i=[]:=by simp;omega
  rw[hd,hd2]at h;rw[hi1,hi2]
  wp_walk using wpAny_loadPart' hl,wpAny_loadPart' hb
  show R (.ok (.ret (.bool (decide (items.size<items2.size))))) _;have:decide (items.size<items2.size)=lexLt [] []:=by rw[e1,e2,hs];simp[lexLt]
  rw[this];exact h
 |succ k ih=>
  intro i hk prog w A R s h;obtain⟨hp,g,d,tk,os⟩:=s;obtain⟨hl,hb,h⟩:=h
  wp_walk using wpAny_loadPart' hl,wpAny_loadPart' hb
  have hlt:i<xs.length:=by omega
  have hlt2:i<ys.length:=by omega
  obtain⟨t,hi1⟩:=h1.2 i hlt;obtain⟨u,hi2⟩:=h2.2 i hlt2;have hi1:items[((i:Nat):Int).toNat]?=some (.int (xs[i]:Nat) t):=by simpa using hi1
  have hi2:items2[((i:Nat):Int).toNat]?=some (.int (ys[i]:Nat) u):=by simpa using hi2
  have hc:((i:Int)+1)=((i+1:Nat):Int):=by push_cast;rfl
  rw[aci xs ys i hlt hlt2]at h;rw[hi1,hi2];refine wpAny_bind (wpAny_eqBool_int ?_);by_cases hb':xs[i]=ys[i]
  ·rw[if_pos hb']at h
   rw[show(((xs[i]:Nat):Int)==((ys[i]:Nat):Int))=true by simp[hb']]
   wp_walk
   rw[hc];exact⟨plainId_quiet plain_eq_loop _,codeAny_builtin entry_eq_loop (by
    rw[Around.under_plainId plain_eq_loop _];exact ih (i+1) (by omega) prog w A R _ ⟨hl,hb,h⟩)⟩
  ·rw[if_neg hb']at h
   rw[show(((xs[i]:Nat):Int)==((ys[i]:Nat):Int))=false by simp;omega]
   wp_walk using wpAny_loadPart' hl,wpAny_loadPart' hb
   rw[hi1,hi2];refine wpAny_bind (show wpAny (model prog w) _ (richCompare .Lt _ _) _ _ _ from PyProof.Rows.lt_int ?_);have:decide (((xs[i]:Nat):Int)<((ys[i]:Nat):Int))=decide (xs[i]<ys[i]):=by simp
   rw[this];exact wpAny_pure h
theorem ad9 (l b:Addr) (items items2:Array Value) (n n2:Nat) (dd dd2:Option Addr) (sl sl2:Array (Option Value)) (xs ys:List Nat) (h1:IntsAre items xs) (h2:IntsAre items2 ys) (hs:xs.length=ys.length):
  Meets (Builtin.«list.__lt__» ⟨[.ref l, .ref b],[]⟩)
   (fun A R s=>s.heap.get? l=some {cls:= .type "list",dict:=dd,data:= .seq items n,slots:=sl}∧s.heap.get? b=some {cls:= .type "list",dict:=dd2,data:= .seq items2 n2,slots:=sl2}∧
    R (.ok (.ret (.bool (lexLt xs ys)))) s):=by
 intro prog w A R s h;obtain⟨hp,g,d,tk,os⟩:=s;obtain⟨hl,hb,h⟩:=h
 have f3:=AutoSeq1.sub_list_list
 wp_walk using wpAny_loadPart' hl,wpAny_loadPart' hb
 exact⟨plainId_quiet plain_eq_loop _,codeAny_builtin entry_eq_loop (by
  rw[Around.under_plainId plain_eq_loop _];exact ad8 l b items items2 n n2 dd dd2 sl sl2 xs ys h1 h2 hs _ 0 rfl prog w A R _ ⟨hl,hb,by simpa using h⟩)⟩
theorem afV {prog:Program}{w:World}{A:Around}{E:Value→Shared→Prop}{s:Shared}{l b:Addr}{items items2:Array Value}{xs ys:List Nat}{Q:Value→Shared→Prop}(hl:s.heap.IsList l items) (hb:s.heap.IsList b items2) (h1:IntsAre items xs) (h2:IntsAre items2 ys) (hs:xs.length=ys.length) (hu:A.units<cLine)
  (h:Q (.bool (lexLt xs ys)) s):wpAny (model prog w) A (compareOp .Lt (.ref l) (.ref b)) Q E s:=by
 obtain⟨⟨cls,dd,data,sl⟩,ho,hc,n,hd⟩:=id hl;obtain⟨⟨cls2,dd2,data2,sl2⟩,ho2,hc2,n2,hd2⟩:=id hb;simp only at hc hd hc2 hd2;subst hc hd hc2 hd2;exact richCompare_meets_room (op:= .Lt) ⟨_,ho,rfl⟩ ⟨_,ho2,rfl⟩ F.slot_list_lt F.entry_list_lt (F.args_list_lt_2 _ _) (ad9 l b items items2 n n2 dd dd2 sl sl2 xs ys h1 h2 hs)
  ⟨ho,ho2,show Value.bool (lexLt xs ys)≠Value.notImplemented∧Q (.bool (lexLt xs ys)) s from⟨(fun x=>nomatch x),h⟩⟩ hu
theorem afW {prog:Program}{w:World}{A:Around}{E:Value→Shared→Prop}{s:Shared}{l b:Addr}{items items2:Array Value}{xs ys:List Nat}{Q:Bool→Shared→Prop}(hl:s.heap.IsList l items) (hb:s.heap.IsList b items2) (h1:IntsAre items xs) (h2:IntsAre items2 ys) (hs:xs.length=ys.length) (hu:A.units<cLine)
  (h:Q (decide (xs=ys)) s):wpAny (model prog w) A (eqBool (.ref l) (.ref b)) Q E s:=by
 by_cases hlb:l=b
 ·subst hlb
  have ei:items=items2:=by
   obtain⟨o,ho,hc,n,hd⟩:=hl;obtain⟨o2,ho2,hc2,n2,hd2⟩:=hb;rw[ho]at ho2;injection ho2 with e
   subst e;rw[hd]at hd2;injection hd2
  subst ei;have:xs=ys:=by
   refine List.ext_getElem hs fun j a b=>?_
   obtain⟨t,e1⟩:=h1.2 j a;obtain⟨u,e2⟩:=h2.2 j b;rw[e1]at e2;injection e2 with e2
   injection e2 with e2
   exact_mod_cast e2
  rw[decide_eq_true this]at h;exact EqAt.same (A:=A) (s:=s) (.ref l) prog w E Q h
 ·refine EqAt.of_refs hlb (RcAt.lists (e:=fun j=>decide (xs[j]?=ys[j]?)) hl hb (by rw[h1.1,h2.1,hs]) hu fun j a b=>?_) prog w E Q ?_
  ·have a':j<xs.length:=h1.1▸a
   have b':j<ys.length:=h2.1▸b;obtain⟨t,e1⟩:=h1.2 j a';obtain⟨u,e2⟩:=h2.2 j b';rw[Array.getElem?_eq_getElem a]at e1;rw[Array.getElem?_eq_getElem b]at e2;injection e1 with e1
   injection e2 with e2
   rw[e1,e2];have:decide (xs[j]?=ys[j]?)=(((xs[j]:Nat):Int)==((ys[j]:Nat):Int)):=by
    rw[List.getElem?_eq_getElem a',List.getElem?_eq_getElem b'];by_cases h:xs[j]=ys[j]
    ·simp[h]
    ·have:¬((xs[j]:Nat):Int)=((ys[j]:Nat):Int):=by omega
     simp[h,this]
   rw[this];exact(EqGives.int _ _ _ _).at _ _
  ·have:(List.range items.size).all (fun j=>decide (xs[j]?=ys[j]?))=decide (xs=ys):=by
    rw[Bool.eq_iff_iff];simp only[List.all_eq_true,List.mem_range,decide_eq_true_eq];constructor
    ·intro g
     refine List.ext_getElem? fun j=>?_
     by_cases hj:j<xs.length
     ·exact g j (h1.1.symm▸hj)
     ·rw[List.getElem?_eq_none (by omega),List.getElem?_eq_none (by omega)]
    ·rintro rfl j _
     rfl
   rw[this];exact h
def keyLt (xs ys:List Nat):Bool:=decide (xs.length<ys.length)||(decide (xs.length=ys.length)&&lexLt xs ys)
theorem zW:∀xs:List Nat,lexLt xs xs=false
 |[]=>rfl
 |x::xs=>by rw[lexLt,if_pos rfl,zW xs]
structure fY (h:Heap) (t:Addr) (xs:List Nat):Prop where
 at':∃o u l n items,h.get? t=some o∧o.cls= .type "tuple"∧o.data= .seq #[.int (xs.length:Nat) u, .ref l] n∧h.IsList l items∧IntsAre items xs
theorem aho {prog:Program}{w:World}{A:Around}{E:Value→Shared→Prop}{s:Shared}{t1 t2:Addr}{xs ys:List Nat}{Q:Bool→Shared→Prop}(h1:fY s.heap t1 xs) (h2:fY s.heap t2 ys) (hu:A.units<cLine)
  (h:Q (keyLt xs ys) s):wpAny (model prog w) A (keyLt' (tuples' true) (.ref t1) (.ref t2)) Q E s:=by
 obtain⟨o1,u1,l1,n1,i1,g1,-,d1,L1,I1⟩:=h1;obtain⟨o2,u2,l2,n2,i2,g2,-,d2,L2,I2⟩:=h2;refine PySem.W.kat_lt g1 d1 g2 d2 ?_;show PySem.W.KatLex prog w A true _ Q [(Value.int (xs.length:Nat) u1,Value.int (ys.length:Nat) u2),(Value.ref l1,Value.ref l2)] 0 s;refine PySem.W.kat_cons (wpAny_eqBool_int ?_);by_cases hl:xs.length=ys.length
 ·rw[show(((xs.length:Nat):Int)==((ys.length:Nat):Int))=true by simp[hl]]
  refine PySem.W.kat_yes (PySem.W.kat_cons (afW L1 L2 I1 I2 hl hu ?_));have hk:keyLt xs ys=lexLt xs ys:=by unfold keyLt;simp[hl]
  rw[hk]at h;by_cases he:xs=ys
  ·rw[decide_eq_true he]
   refine PySem.W.kat_yes (PySem.W.kat_nil ?_);rw[he,zW]at h;simpa using h
  ·rw[decide_eq_false he]
   refine PySem.W.kat_no ?_;show wpAny (model prog w) A (oneLt' false (.ref l1) (.ref l2)) Q (fun _ _=>False) s;refine PySem.W.kat_one _ _ (afV L1 L2 I1 I2 hl hu ?_);exact h
 ·rw[show(((xs.length:Nat):Int)==((ys.length:Nat):Int))=false by simp;omega]
  refine PySem.W.kat_no ?_;show wpAny (model prog w) A (oneLt' true _ _) Q (fun _ _=>False) s;refine oneLt_int ?_;have hk:keyLt xs ys=decide (((xs.length:Nat):Int)<((ys.length:Nat):Int)):=by unfold keyLt;simp[hl]
  rw[←hk];exact h
end Hs
end
section
namespace Hs
open PySem PyProof.Rows
theorem Gj:∀{z y:List Nat}(x:List Nat),lexLt z y=true→lexLt z x=true∨lexLt x y=true
 |[],[],_,h=>by simp[lexLt]at h
 |[],y::ys,[],_=> .inr rfl
 |[],y::ys,x::xs,_=> .inl rfl
 |z::zs,[],_,h=>by simp[lexLt]at h
 |z::zs,y::ys,[],h=> .inr rfl
 |z::zs,y::ys,x::xs,h=>by
  simp only[lexLt]at h⊢;by_cases e1:z=y
  ·subst e1
   rw[if_pos rfl]at h;by_cases e2:z=x
   ·subst e2
    rw[if_pos rfl,if_pos rfl];exact Gj xs h
   ·rw[if_neg e2,if_neg (Ne.symm e2)]
    simp only[decide_eq_true_eq];omega
  ·rw[if_neg e1,decide_eq_true_eq]at h
   by_cases e2:z=x
   ·subst e2
    right;rw[if_neg e1];simpa using h
   ·rw[if_neg e2]
    by_cases e3:x=y
    ·left
     simp only[decide_eq_true_eq];omega
    ·rw[if_neg e3]
     simp only[decide_eq_true_eq];omega
theorem LK:∀{a b:List Nat},lexLt a b=true→lexLt b a=false
 |[],[],h=>by simp[lexLt]at h
 |[],_::_,_=>rfl
 |_::_,[],h=>by simp[lexLt]at h
 |x::xs,y::ys,h=>by
  simp only[lexLt]at h⊢;by_cases e:x=y
  ·subst e
   rw[if_pos rfl]at h⊢;exact LK h
  ·rw[if_neg e,decide_eq_true_eq]at h
   rw[if_neg (Ne.symm e),decide_eq_false_iff_not];omega
theorem YX:∀{a b:List Nat},lexLt b a=false→Kd.lexLe a b
 |[],_,_=>by simp[Kd.lexLe]
 |_::_,[],h=>by simp[lexLt]at h
 |x::xs,y::ys,h=>by
  simp only[lexLt]at h;by_cases e:y=x
  ·subst e
   rw[if_pos rfl]at h;exact .inr ⟨rfl,YX h⟩
  ·rw[if_neg e,decide_eq_false_iff_not]at h
   exact .inl (by omega)
theorem Gk {z y:List Nat}(x:List Nat) (h:keyLt z y=true):keyLt z x=true∨keyLt x y=true:=by
 unfold keyLt at*;simp only[Bool.or_eq_true,Bool.and_eq_true,decide_eq_true_eq]at*;rcases h with h|⟨h,k⟩
 ·omega
 ·by_cases e:z.length=x.length
  ·rcases Gj x k with g|g
   ·exact .inl (.inr ⟨e,g⟩)
   ·exact .inr (.inr ⟨by omega,g⟩)
  ·omega
theorem aac {a b:List Nat}(h:keyLt a b=true):keyLt b a=false:=by
 unfold keyLt at*;simp only[Bool.or_eq_true,Bool.and_eq_true,decide_eq_true_eq,Bool.or_eq_false_iff,Bool.and_eq_false_iff,decide_eq_false_iff_not]at*;rcases h with h|⟨h,k⟩
 ·exact⟨by omega, .inl (by omega)⟩
 ·exact⟨by omega, .inr (LK k)⟩
theorem keyLt_irrefl (a:List Nat):keyLt a a=false:=by
 unfold keyLt;simp[zW]
theorem aea {a b:List Nat}(h:keyLt b a=false):Kd.Before a b:=by
 unfold keyLt at h;simp only[Bool.or_eq_false_iff,Bool.and_eq_false_iff,decide_eq_false_iff_not]at h;rcases h with⟨h,g|g⟩
 ·exact .inl (by omega)
 ·by_cases e:a.length<b.length
  ·exact .inl e
  ·exact .inr ⟨by omega,YX g⟩
def fQ (ks:List (List Nat)) (xs:List Nat):Nat:=(ks.filter fun z=>keyLt z xs).length
theorem yh {α:Type}{p q:α→Bool}:∀{l:List α},(∀x∈l,p x=true→q x=true)→(l.filter p).length≤(l.filter q).length
 |[],_=>Nat.le_refl _
 |x::l,h=>by
  have ih:=yh (l:=l) fun y hy=>h y (List.mem_cons_of_mem _ hy)
  have hx:=h x (List.mem_cons_self ..);by_cases a:p x=true
  ·rw[List.filter_cons_of_pos a,List.filter_cons_of_pos (hx a)]
   simpa using ih
  ·rw[List.filter_cons_of_neg a]
   by_cases b:q x=true
   ·rw[List.filter_cons_of_pos b]
    simp only[List.length_cons];omega
   ·rw[List.filter_cons_of_neg b]
    exact ih
theorem Gm {α:Type}{p q:α→Bool}{c:α}(hp:p c=false) (hq:q c=true):∀{l:List α},c∈l→(∀x∈l,p x=true→q x=true)→(l.filter p).length<(l.filter q).length
 |x::l,hc,h=>by
  have le:=yh (l:=l) fun y hy=>h y (List.mem_cons_of_mem _ hy)
  by_cases e:x=c
  ·subst e
   rw[List.filter_cons_of_neg (by simp[hp]),List.filter_cons_of_pos hq];simp only[List.length_cons];omega
  ·have hc':c∈l:=by
    rcases List.mem_cons.mp hc with r|r
    ·exact absurd r.symm e
    ·exact r
   have ih:=Gm hp hq hc' fun y hy=>h y (List.mem_cons_of_mem _ hy)
   have hx:=h x (List.mem_cons_self ..);by_cases a:p x=true
   ·rw[List.filter_cons_of_pos a,List.filter_cons_of_pos (hx a)]
    simpa using ih
   ·rw[List.filter_cons_of_neg a]
    by_cases b:q x=true
    ·rw[List.filter_cons_of_pos b]
     simp only[List.length_cons];omega
    ·rw[List.filter_cons_of_neg b]
     exact ih
theorem acj {ks:List (List Nat)}{xs ys:List Nat}(hx:xs∈ks):keyLt xs ys=decide (fQ ks xs<fQ ks ys):=by
 cases h:keyLt xs ys with
 |true=>
  symm;rw[decide_eq_true_eq];refine Gm (p:=fun z=>keyLt z xs) (q:=fun z=>keyLt z ys) (c:=xs) (keyLt_irrefl xs) h hx fun z _ hz=>?_
  rcases Gk ys hz with g|g
  ·exact g
  ·rw[aac h]at g
   cases g
 |false=>
  symm;rw[decide_eq_false_iff_not,Nat.not_lt];refine yh fun z _ hz=>?_
  rcases Gk xs hz with g|g
  ·exact g
  ·rw[h]at g
   cases g
def R9 (ks:List (List Nat)):Option (List Nat)→Obj
 |some xs=>seqObj "tuple" (Array.replicate (fQ ks xs) Value.none) 0
 |none=>{cls:= .type "tuple",data:= .freed}
def ji (h:Heap) (ks:List (List Nat)) (key:Addr→Option (List Nat)):Heap:=⟨(Array.range h.objs.size).map fun a=>R9 ks (key a),h.life⟩
theorem CQ {h:Heap}{ks:List (List Nat)}{key:Addr→Option (List Nat)}(a:Addr):(ji h ks key).get? a=if a<h.objs.size then(key a).map fun xs=>seqObj "tuple" (Array.replicate (fQ ks xs) Value.none) 0 else none:=by
 unfold ji Heap.get?;by_cases ha:a<h.objs.size
 ·rw[if_pos ha]
  have e:((Array.range h.objs.size).map fun a=>R9 ks (key a))[a]?=some (R9 ks (key a)):=by simp[ha]
  simp only[e];cases key a with
  |none=>rfl
  |some xs=>rfl
 ·rw[if_neg ha]
  have e:((Array.range h.objs.size).map fun a=>R9 ks (key a))[a]?=none:=by simp;exact Nat.le_of_not_lt ha
  simp only[e]
def Bj (ks:List (List Nat)) (key:Addr→Option (List Nat)):KeyKind where
 α:=Nat
 blt a b:=decide (a<b)
 irrefl:=by simp
 trans:=by intro a b c;simp only[decide_eq_true_eq];omega
 negTrans:=by intro a b c;simp only[decide_eq_true_eq];omega
 total:=by intro a b;simp only[decide_eq_false_iff_not];omega
 keyOf v:=match v with| .ref a=>(key a).map (fQ ks)|_=>none
 dflt:=0
section
variable {prog:Program}{w:World}{A:Around}{E:Value→Shared→Prop}{s:Shared}{ks:List (List Nat)}{key:Addr→Option (List Nat)}
theorem Oh {M:Model}{Γ:PySem.Ctx}{p:Pos}{s:Shared}{b:Bool}{E:Value→Pos→Shared→Prop}{Q:Option Bool×Unit→Pos→Shared→Prop}:∀(n i:Nat),
  Sem.wp M Γ (forIn ((List.replicate n (Value.none,Value.none)).zipIdx i) ((none:Option Bool),()) fun x r=>do
   if !(←eqBool x.1.1 x.1.2)then do
    let c←oneLt' (b&&x.2==0) x.1.1 x.1.2
    pure (ForInStep.done (some c,()))
   else pure (ForInStep.yield (none,()))) Q E p s=Q (none,()) p s
 |0,i=>by
  rw[List.replicate_zero,List.zipIdx_nil,List.forIn_nil,Sem.wp_pure']
 |n+1,i=>by
  rw[List.replicate_succ,List.zipIdx_cons,List.forIn_cons,Sem.wp_bind',Sem.wp_bind'];have e:eqBool Value.none Value.none=holding [Value.none,Value.none] (do rule "eq-bool.same-object";return true):=rfl;rw[e,Sem.wp_holding,Sem.wp_bind',Sem.wp_cmd_rule,Sem.wp_pure'];simp only[Bool.not_true,Bool.false_eq_true,if_false,Sem.wp_pure'];exact Oh n (i+1)
theorem Uo {M:Model}{Γ:PySem.Ctx}{p:Pos}{x:Value}{E:Value→Pos→Shared→Prop}{Q:Array Value→Pos→Shared→Prop}
  (h:Sem.wp M Γ (Builtin.List.listItems x) Q E p {s with heap:=ji s.heap ks key}):∃a xs,x= .ref a∧key a=some xs∧a<s.heap.objs.size∧Q (Array.replicate (fQ ks xs) Value.none) p {s with heap:=ji s.heap ks key}:=by
 unfold Builtin.List.listItems at h;rw[Sem.wp_bind']at h;cases x with
 |ref a=>
  unfold seqItems? at h;dsimp only at h;rw[Sem.wp_bind',Sem.wp_cmd_load]at h;obtain⟨o,ho,h⟩:=h;have ho:(ji s.heap ks key).get? a=some o:=ho;rw[CQ]at ho;by_cases ha:a<s.heap.objs.size
  ·rw[if_pos ha]at ho
   cases hk:key a with
   |none=>rw[hk]at ho;cases ho
   |some xs=>
    rw[hk]at ho;injection ho with ho
    subst ho;simp only[seqObj,Sem.wp_pure']at h;exact⟨a,xs,rfl,hk,ha,h⟩
  ·rw[if_neg ha]at ho
   cases ho
 |builtin id=>
  unfold seqItems? notAStandIn at h;dsimp only at h;rw[Sem.wp_bind']at h
  split at h
  ·rw[Sem.wp_cmd_unsupported]at h
   exact h.elim
  ·simp only[Sem.wp_pure',Sem.wp_cmd_unsupported]at h
 |_=>
  unfold seqItems? notAStandIn at h;dsimp only at h;simp only[Sem.wp_bind',Sem.wp_pure',Sem.wp_cmd_unsupported]at h
theorem YZ (m n:Nat):(Array.replicate m Value.none).toList.zip (Array.replicate n Value.none).toList=List.replicate (min m n) (Value.none,Value.none):=by
 simp[List.zip_replicate']
theorem aiL {M:Model}{Γ:PySem.Ctx}{p:Pos}{x y:Value}{E:Value→Pos→Shared→Prop}{Q:Bool→Pos→Shared→Prop}
  (h:Sem.wp M Γ (keyLt' (tuples' true) x y) Q E p {s with heap:=ji s.heap ks key}):∃a b xs ys,x= .ref a∧y= .ref b∧key a=some xs∧key b=some ys∧Q (decide (fQ ks xs<fQ ks ys)) p {s with heap:=ji s.heap ks key}:=by
 rw[kat_lt_eq,Sem.wp_bind']at h;obtain⟨a,xs,rfl,ka,_,h⟩:=Uo h;rw[Sem.wp_bind']at h;obtain⟨b,ys,rfl,kb,_,h⟩:=Uo h;rw[Sem.wp_bind',YZ]at h;refine⟨a,b,xs,ys,rfl,rfl,ka,kb,?_⟩;have h:=(Oh (b:=true) _ 0).mp h;dsimp only at h;rw[Sem.wp_pure']at h;simpa using h
theorem aiM {a b:Addr}{xs ys:List Nat}(ka:key a=some xs) (kb:key b=some ys) (ha:a<s.heap.objs.size) (hb:b<s.heap.objs.size){Q:Bool→Shared→Prop}(h:Q (decide (fQ ks xs<fQ ks ys)) {s with heap:=ji s.heap ks key}):
  wpAny (model prog w) A (keyLt' (tuples' true) (.ref a) (.ref b)) Q E {s with heap:=ji s.heap ks key}:=by
 have ga:(ji s.heap ks key).get? a=some (seqObj "tuple" (Array.replicate (fQ ks xs) Value.none) 0):=by rw[CQ,if_pos ha,ka];rfl
 have gb:(ji s.heap ks key).get? b=some (seqObj "tuple" (Array.replicate (fQ ks ys) Value.none) 0):=by rw[CQ,if_pos hb,kb];rfl
 rw[kat_lt_eq];refine wpAny_bind (listItems_at (s:={s with heap:=ji s.heap ks key}) ga rfl (wpAny_bind (listItems_at (s:={s with heap:=ji s.heap ks key}) gb rfl ?_)));rw[YZ];refine fun Γ p _=>?_
 rw[Sem.wp_bind'];refine(Oh (b:=true) _ 0).mpr ?_;dsimp only;rw[Sem.wp_pure'];simpa using h
theorem aeb {st:SortSt}{Q:SortSt→Prop}(hkey:∀a xs,key a=some xs→xs∈ks∧fY s.heap a xs) (hu:A.units<cLine) (hk:kindOf st=tuples' true) (hp:pendingOf st= #[]) (hf:failedOf st=none) (h2:2≤(arrOf st).size)
  (h0:∀p∈(arrOf st).toList,∃a xs,p.1= .ref a∧key a=some xs)
  (h:∀st',(arrOf st').Perm (arrOf st)→failedOf st'=none→SortedToK (Bj ks key) (arrOf st') (arrOf st).size→Q st'):wpAny (model prog w) A (sortRuns'.run st) (fun r s1=>s1=s∧Q r.2) E s:=by
 intro Γ p hΓ;have lt:∀{a xs},key a=some xs→a<s.heap.objs.size:=fun{a xs} hk=>by
  obtain⟨o,u,l,n,items,g,_⟩:=(hkey a xs hk).2;exact Heap.lt_size g
 have hO:G.LtAt prog w {s with heap:=ji s.heap ks key} (Bj ks key) (tuples' true):=by
  intro A E x y a b Q ha hb hq;cases x with
  |ref x=>
   cases y with
   |ref y=>
    have ha:(key x).map (fQ ks)=some a:=ha;have hb:(key y).map (fQ ks)=some b:=hb;cases kx:key x with
    |none=>rw[kx]at ha;cases ha
    |some xs=>
     cases ky:key y with
     |none=>rw[ky]at hb;cases hb
     |some ys=>
      rw[kx]at ha;rw[ky]at hb;injection ha with ha
      injection hb with hb
      subst ha hb;exact aiM kx ky (lt kx) (lt ky) hq
   |_=>cases hb
  |_=>cases ha
 have ref:=G.wpS_sortRunsSt (A:=A) (E:=fun _ _=>False) (Q:=fun _ st'=>(arrOf st').Perm (arrOf st)∧failedOf st'=none∧SortedToK (Bj ks key) (arrOf st') (arrOf st).size) (a₀:=arrOf st) (st:=st) hO
  (fun p hp=>by
   obtain⟨a,xs,e,ka⟩:=h0 p hp;exact⟨fQ ks xs,by rw[e];show(key a).map (fQ ks)=_;rw[ka];rfl⟩)
  ⟨Array.Perm.refl _,hk,hf⟩ hp (Stable.refl _) h2 (fun st' a b c _=>⟨a,b,c⟩)
 have L:∀x y,pq (model prog w) Γ s {s with heap:=ji s.heap ks key} (tuples' true) (lt' x y):=aiK fun x y p' Q E hh p=>by
  obtain⟨a,b,xs,ys,rfl,rfl,ka,kb,hh⟩:=aiL hh;refine aho (hkey a xs ka).2 (hkey b ys kb).2 hu (Q:=fun c s1=>s1=s∧∃p1,Q c p1 _) (E:=fun _ _=>False) ⟨rfl,p',?_⟩ Γ p hΓ;rw[acj (hkey a xs ka).1];exact hh
 refine Sem.wp_mono _ Γ _ (fun r p1 s1 g=>?_) (fun _ _ _ e=>e.elim) p s (Wv L st p _ hk (ref Γ p hΓ) p);obtain⟨e1,_,_,_,g1,g2,g3⟩:=g;exact⟨e1,h _ g1 g2 g3⟩
end
end Hs
end
section
namespace Hs
open PySem PySem.Spec PyProof.Rows L2 Hk
abbrev nW (l:List Nat):List V:=l.map fun(n:Nat)=>V.int (n:Int)
theorem ahp {X:Cx}{k:Nat}{f:Addr}{fd:FuncData}{ps:List Str}{sp:Sp}{pins:List (Addr×Obj)}{σ:L2.St}{H:Hp}{s:Shared}{Q:VK}{us:List Value}{vs:List V}{E:Value→Shared→Prop}(F:bK X.prog X.w X.K X.mg X.base cV k f fd ps sp) (hr:iY (k+2) X.A) (hb:Binds X.K fd ps [])
  (I:Inv X pins σ H s) (r:Vals vs us) (h:sp vs H Q E0):wpAny (model X.prog X.w) X.A.in1.in1 (call (.ref f) us) (EP X pins σ Q) E s:=by
 have hl:(us++[]).length=ps.length:=by rw[List.append_nil,←r.length];exact F.len _ _ _ _ h
 have hbd:=hb s us I.Nt hl;rw[List.append_nil]at hbd;refine wpAny_call (codeAny_mono (F.run X.A.in1.in1 X.stack s H ⟨us,[]⟩ us vs Q E0 hr.in1.in1 I.env0.in1.in1 hbd r h) fun r s' hq=>?_);cases r with
 |error e=>exact False.elim hq
 |ok fl=>
  cases fl with
  |ret u=>exact I.after hq
  |next=>exact False.elim hq
  |brk=>exact False.elim hq
  |cont=>exact False.elim hq
theorem Gn:∀{ns:List Nat}{its:List Value},Vals (nW ns) its→its.length=ns.length∧∀j (h:j<ns.length),∃t,its[j]?=some (.int (ns[j]:Nat) t):=fun{ns its} r=>by
 have hl:=r.length;rw[List.length_map]at hl;refine⟨hl.symm,fun j h=>?_⟩;obtain⟨u,hu,t,e⟩:=r.get (i:=j) (x:=V.int (ns[j]:Nat)) (by rw[List.getElem?_map,List.getElem?_eq_getElem h];rfl);exact⟨t,by rw[hu,e]⟩
theorem intsAre_of {ns:List Nat}{its:List Value}(r:Vals (nW ns) its):IntsAre its.toArray ns:=by
 obtain⟨e,h⟩:=Gn r;exact⟨by simpa using e,fun j hj=>by simpa using h j hj⟩
theorem Y0 {X:Cx}{pins:List (Addr×Obj)}{σ:L2.St}{H:Hp}{s:Shared}(I:Inv X pins σ H s){t l:Addr}{xs:List Nat}(ht:H t=some (.tup [.int (xs.length:Nat), .ref l])) (hl:H l=some (.lst (nW xs))):fY s.heap t xs:=by
 obtain⟨_,its,r,o,ho,hc,n,hd⟩:=I.hok t _ ht;obtain⟨_,jts,m,r2,hg⟩:=I.hok l _ hl;obtain⟨u,v,rfl,⟨tk,eu⟩,ev⟩:=r.two;have ev:v=Value.ref l:=ev;subst eu ev;exact⟨o,tk,l,n,jts.toArray,ho,hc,hd,⟨_,hg,rfl,m,rfl⟩,intsAre_of r2⟩
theorem aec {h:Heap}{t:Addr}{xs ys:List Nat}(a:fY h t xs) (b:fY h t ys):xs=ys:=by
 obtain⟨o,u,l,n,i,g,c,d,⟨p,hp,_,m,hd⟩,q⟩:=a;obtain⟨o2,u2,l2,n2,i2,g2,c2,d2,⟨p2,hp2,_,m2,hd2⟩,q2⟩:=b;rw[g]at g2;cases g2;rw[d]at d2;injection d2 with d2 _
 have e:=congrArg Array.toList d2;simp only[List.cons.injEq,and_true,Value.int.injEq,Value.ref.injEq]at e;obtain⟨⟨e1,_⟩,e2⟩:=e;subst e2;rw[hp]at hp2;cases hp2;rw[hd]at hd2;injection hd2 with hd2 _
 subst hd2;refine List.ext_getElem (by exact_mod_cast e1) fun j a b=>?_
 obtain⟨t1,z1⟩:=q.2 j a;obtain⟨t2,z2⟩:=q2.2 j b;rw[z1]at z2;injection z2 with z2
 injection z2 with z2
 exact_mod_cast z2
theorem acn:∀{out:List Value}{g:Value→Nat},(∀u∈out,∃t,u=Value.int (g u:Nat) t)→Vals (nW (out.map g)) out
 |[],_,_=> .nil
 |u::out,g,h=> .cons (h u (List.mem_cons_self ..)) (acn fun v hv=>h v (List.mem_cons_of_mem _ hv))
section
variable {X:Cx}{pins:List (Addr×Obj)}{σ:L2.St}{H:Hp}{s:Shared}{A:Around}{E:Value→Shared→Prop}{P:PySem.Fin→Shared→Prop}{D kS:Addr}{ts:List Addr}{ok:Obj}{e1:Nat}{ns:List Nat}{its:List Value}{key:Nat→List Nat}
theorem afX (I:Inv X pins σ H s) (hD:H D=some (.cM {cls:= .type "list",data:= .seq #[] e1} (.lst []))) (hS:H kS=some (.cM ok (.lst (ts.map V.ref)))) (Ww:D≠kS) (nD:∀o' u',X.Nr D≠some (.cM o' u')) (nS:∀o' u',X.Nr kS≠some (.cM o' u'))
  {st:SortSt}{ns':List Nat}(hv:Vals (nW ns') ((arrOf st).map (·.2)).toList) (hz:ns'.length≤1000) (hf:failedOf st=none)
  (h:∀s',Inv X pins σ (upd (upd H kS (.lst [])) D (.lst (nW ns'))) s'→P (.done (.ret .none)) s'):wpAny (model X.prog X.w) A (ksk_tail D false e1 (.ref kS) st) P E s:=by
 have I1:=I.unlock hS nS;obtain⟨z1,jts,m,r1,_,g1⟩:=I1.Qj (l:=kS) aq;have I2:=I1.S8 (its':=[]) (ys:=[]) (f:=fun _=> #[]) (t':=s.toks) aq g1 rfl .nil (Nat.zero_le _);rw[cU]at I2;have hD2:upd H kS (.lst []) D=some (.cM {cls:= .type "list",data:= .seq #[] e1} (.lst [])):=by rw[aJ Ww];exact hD
 have gD:(s.heap.update kS (Obj.mapSeq fun _=> #[])).get? D=some {cls:= .type "list",data:= .seq #[] e1}:=(I2.hok D _ hD2).1;have I3:=I2.unlock hD2 nD;have hsz:((arrOf st).map (·.2)).size≤sizeLine:=by
  have a:=hv.length;have b:((arrOf st).map (·.2)).toList.length=((arrOf st).map (·.2)).size:=Array.length_toList ..;have c:(nW ns').length=ns'.length:=List.length_map ..;rw[sizeLine_eq];omega
 have I4:=I3.S8 (l:=D) (its:=[]) (its':=((arrOf st).map (·.2)).toList) (ys:=nW ns') (f:=fun _=>(arrOf st).map (·.2)) (t':=s.toks) aq gD (Array.toArray_toList ..).symm hv (by rw[List.length_map,sizeLine_eq];omega);rw[cU]at I4;unfold ksk_tail;dsimp only;refine wpAny_bind (listUpdate_at g1 rfl ?_ (by rw[List.size_toArray,←r1.length];exact z1) (Nat.zero_le _));refine wpAny_bind (wpAny_letGo ?_);refine wpAny_bind (seqEpoch_at (s:={s with heap:=s.heap.update kS (Obj.mapSeq fun _=> #[])}) gD rfl ?_);refine wpAny_bind (listUpdate_at (s:={s with heap:=s.heap.update kS (Obj.mapSeq fun _=> #[])}) gD rfl ?_ (Nat.zero_le _) (by simp only[Bool.false_eq_true,if_false];exact Nat.le_succ_of_le hsz));rw[hf];simp only[bne_self_eq_false,Bool.false_eq_true,if_false];exact wpAny_pure (h _ I4)
theorem ahq (hu:A.units<cLine) (I:Inv X pins σ H s) (hD:H D=some (.cM {cls:= .type "list",data:= .seq #[] e1} (.lst []))) (hS:H kS=some (.cM ok (.lst (ts.map V.ref)))) (Ww:D≠kS) (nD:∀o' u',X.Nr D≠some (.cM o' u')) (nS:∀o' u',X.Nr kS≠some (.cM o' u'))
  (hi:Vals (nW ns) its) (hz:ns.length≤1000) (hl:ts.length=ns.length) (hk:∀(j:Nat) (t:Addr) (n:Nat),ts[j]?=some t→ns[j]?=some n→∃l,H t=some (.tup [.int ((key n).length:Nat), .ref l])∧H l=some (.lst (nW (key n))))
  (h:∀ns' s',Inv X pins σ (upd (upd H kS (.lst [])) D (.lst (nW ns'))) s'→ns'.Perm ns→ns'.Pairwise (fun x y=>Kd.Before (key x) (key y))→P (.done (.ret .none)) s'):
  wpAny (model X.prog X.w) A (ksk_end D false its.toArray e1 (.ref kS) (ts.map Value.ref).toArray) P E s:=by
 classical
 obtain⟨il,ig⟩:=Gn hi
 let g:Value→Nat:=fun v=>match v with| .int i _=>i.toNat|_=>0
 -- what a pair is
 let pr:Keyed→Prop:=fun p=>∃t u n,p=(.ref t, .int (n:Nat) u)∧fY s.heap t (key n)∧n∈ns
 have hpr:∀p∈((ts.map Value.ref).toArray.zip its.toArray).toList,pr p:=by
  intro p hp;rw[ksk_zip]at hp;obtain⟨j,hj,e⟩:=List.mem_iff_getElem.mp hp;have hj':j<ts.length∧j<its.length:=by
   rw[List.length_zip,List.length_map]at hj;omega
  have hjn:j<ns.length:=by omega
  obtain⟨tk,et⟩:=ig j hjn;obtain⟨l,a,b⟩:=hk j ts[j] ns[j] (List.getElem?_eq_getElem hj'.1) (List.getElem?_eq_getElem hjn);refine⟨ts[j],tk,ns[j],?_,Y0 I a b,List.getElem_mem hjn⟩;rw[←e,List.getElem_zip,List.getElem_map]
  congr 1
  rw[List.getElem?_eq_getElem hj'.2]at et;exact Option.some.inj et
 have hmap:(((ts.map Value.ref).toArray.zip its.toArray).toList.map fun p=>g p.2)=ns:=by
  rw[ksk_zip];refine List.ext_getElem ?_ fun j a b=>?_
  ·rw[List.length_map,List.length_zip,List.length_map]
   omega
  ·rw[List.getElem_map,List.getElem_zip]
   obtain⟨tk,et⟩:=ig j b;rw[List.getElem?_eq_getElem (by omega)]at et;have et:=Option.some.inj et;dsimp only;rw[et];exact Int.toNat_natCast _
 have hzs:((ts.map Value.ref).toArray.zip its.toArray).size=ns.length:=by
  rw[Array.size_zip,List.size_toArray,List.size_toArray,List.length_map];omega
 -- what the sorted pairs give
 have fin:∀st:SortSt,(arrOf st).Perm ((ts.map Value.ref).toArray.zip its.toArray)→failedOf st=none→((arrOf st).toList.map fun p=>g p.2).Pairwise (fun x y=>Kd.Before (key x) (key y))→wpAny (model X.prog X.w) A (ksk_tail D false e1 (.ref kS) st) P E s:=by
  intro st hp hf hw;have hpl:=Array.perm_iff_toList_perm.mp hp;have hperm:((arrOf st).toList.map fun p=>g p.2).Perm ns:=by
   have:=hpl.map fun p=>g p.2
   rwa [hmap]at this
  have e2:((arrOf st).toList.map fun p=>g p.2)=((arrOf st).map (·.2)).toList.map g:=by
   rw[Array.toList_map,List.map_map];rfl
  refine afX I hD hS Ww nD nS (ns':=(arrOf st).toList.map fun p=>g p.2) ?_ (by rw[hperm.length_eq];exact hz) hf fun s' I'=>h _ s' I' hperm hw
  rw[e2];refine acn fun u hu=>?_
  rw[Array.toList_map]at hu;obtain⟨p,hp,rfl⟩:=List.mem_map.mp hu;obtain⟨t,u,n,rfl,_,_⟩:=hpr p (hpl.mem_iff.mp hp);exact⟨u,by simp[g]⟩
 unfold ksk_end;dsimp only;simp only[Bool.false_eq_true,if_false];by_cases h2:its.toArray.size<2
 ·rw[if_pos h2,if_pos h2]
  refine wpAny_bind (wpAny_pure ?_);rw[StateT.run_pure];refine wpAny_bind (wpAny_pure ?_);refine fin (SortSt.mk' general' ((ts.map Value.ref).toArray.zip its.toArray) #[] 7 none) (Array.Perm.refl _) rfl ?_;show((((ts.map Value.ref).toArray.zip its.toArray).toList.map fun p=>g p.2)).Pairwise _;rw[hmap];rw[List.size_toArray]at h2;match ns,il with
  |[],_=>exact List.Pairwise.nil
  |[a],_=>simp
  |a::b::c,e=>simp at e;omega
 ·rw[if_neg h2,if_neg h2]
  rw[List.size_toArray]at h2;have hkt:∀(l:List Addr),(∀t∈l,∃xs,fY s.heap t xs)→∃fs:List Value,PySem.W.KatTups s.heap (l.map Value.ref) fs∧fs.length=l.length∧∀v∈fs,∃i u,v=Value.int i u:=by
   intro l
   induction l with
   |nil=>exact fun _=>⟨[], .nil,rfl,fun v hv=>by simp at hv⟩
   |cons t l ih=>
    intro hh;obtain⟨fs,a,b,c⟩:=ih fun t ht=>hh t (List.mem_cons_of_mem _ ht)
    obtain⟨xs,o,u,l',n,it,g1,g2,g3,_,_⟩:=hh t (List.mem_cons_self ..);refine⟨.int (xs.length:Nat) u::fs,PySem.W.KatTups.cons g1 g2 g3 rfl a,by simp[b],fun v hv=>?_⟩;rcases List.mem_cons.mp hv with rfl|hv
    ·exact⟨_,_,rfl⟩
    ·exact c v hv
  obtain⟨fs,k1,k2,k3⟩:=hkt ts fun t ht=>by
   obtain⟨j,hj,e⟩:=List.mem_iff_getElem.mp ht;obtain⟨l,a,b⟩:=hk j t ns[j] (by rw[←e];exact List.getElem?_eq_getElem hj) (List.getElem?_eq_getElem (by omega));exact⟨_,Y0 I a b⟩
  refine wpAny_bind (PySem.W.kat_kind (T:= .type "int") k1 (by omega) (fun v hv=>?_) (by decide) ?_)
  ·obtain⟨i,u,rfl⟩:=k3 v hv
   exact .now
  let kf:Addr→Option (List Nat):=fun a=>if hh:∃xs,xs∈ns.map key∧fY s.heap a xs then some (Classical.choose hh)else none
  have kfs:∀t n,n∈ns→fY s.heap t (key n)→kf t=some (key n):=fun t n hn ha=>by
   have hh:∃xs,xs∈ns.map key∧fY s.heap t xs:=⟨_,List.mem_map_of_mem hn,ha⟩
   show(if hh:_ then _ else _)=_;rw[dif_pos hh];exact congrArg some (aec (Classical.choose_spec hh).2 ha)
  refine wpAny_bind (wpAny_mono (aeb (ks:=ns.map key) (key:=kf) (A:=A) (E:=E) (s:=s) (Q:=fun st'=>(arrOf st').Perm ((ts.map Value.ref).toArray.zip its.toArray)∧failedOf st'=none∧((arrOf st').toList.map fun p=>g p.2).Pairwise (fun x y=>Kd.Before (key x) (key y)))
   (st:=SortSt.mk' (tuples' (Value.type "int" !=Value.type "tuple")) ((ts.map Value.ref).toArray.zip its.toArray) #[] 7 none) (fun a xs hh=>?_) hu rfl rfl rfl (by show 2≤((ts.map Value.ref).toArray.zip its.toArray).size;omega) (fun p hp=>?_) (fun st' a b c=>⟨a,b,?_⟩)) (fun r s' hr=>?_) fun _ _ e=>e)
  ·by_cases hh':∃xs,xs∈ns.map key∧fY s.heap a xs
   ·have e:kf a=some (Classical.choose hh'):=dif_pos hh'
    rw[e]at hh;cases hh;exact Classical.choose_spec hh'
   ·have e:kf a=none:=dif_neg hh'
    rw[e]at hh;cases hh
  ·obtain⟨t,u,n,rfl,ha,hn⟩:=hpr p hp
   exact⟨t,key n,rfl,kfs t n hn ha⟩
  ·have hpl:=Array.perm_iff_toList_perm.mp a
   rw[List.pairwise_iff_getElem];intro i j hi hj hij;rw[List.length_map,Array.length_toList]at hi hj;have hsz:=a.size_eq;have q:=c i j (Nat.le_of_lt hij) (by rw[←hsz];exact hj);obtain⟨t1,u1,n1,p1,ha1,hn1⟩:=hpr (arrOf st')[i] (hpl.mem_iff.mp (by simp));obtain⟨t2,u2,n2,p2,ha2,hn2⟩:=hpr (arrOf st')[j] (hpl.mem_iff.mp (by simp));have K1:KK (Bj (ns.map key) kf) (arrOf st') i=fQ (ns.map key) (key n1):=by
    unfold KK;rw[Array.getElem?_eq_getElem hi,p1];show(((kf t1).map (fQ (ns.map key))).getD 0)=_;rw[kfs t1 n1 hn1 ha1];rfl
   have K2:KK (Bj (ns.map key) kf) (arrOf st') j=fQ (ns.map key) (key n2):=by
    unfold KK;rw[Array.getElem?_eq_getElem hj,p2];show(((kf t2).map (fQ (ns.map key))).getD 0)=_;rw[kfs t2 n2 hn2 ha2];rfl
   rw[K1,K2]at q;have q:decide (fQ (ns.map key) (key n2)<fQ (ns.map key) (key n1))=false:=q;rw[←acj (List.mem_map_of_mem hn2)]at q;have g1:g (arrOf st')[i].2=n1:=by rw[p1];exact Int.toNat_natCast _
   have g2:g (arrOf st')[j].2=n2:=by rw[p2];exact Int.toNat_natCast _
   have e1:((arrOf st').toList.map fun p=>g p.2)[i]=n1:=by rw[List.getElem_map,Array.getElem_toList];exact g1
   have e2:((arrOf st').toList.map fun p=>g p.2)[j]=n2:=by rw[List.getElem_map,Array.getElem_toList];exact g2
   rw[e1,e2];exact aea q
  ·obtain⟨⟨⟩,st'⟩:=r
   obtain⟨rfl,a,b,c⟩:=hr;exact fin st' a b c
theorem afY {k:Nat}{f:Addr}{fd:FuncData}{ps:List Str}{sp:Sp}{H1:Hp}(F:bK X.prog X.w X.K X.mg X.base cV k f fd ps sp) (hr:iY (k+2) X.A) (hb:Binds X.K fd ps [])
  (I:Inv X pins σ H s) (hD:H D=some (.cM {cls:= .type "list",data:= .seq #[] e1} (.lst []))) (hS:H kS=some (.cM ok (.lst []))) (Ww:D≠kS) (nD:∀o' u',X.Nr D≠some (.cM o' u')) (nS:∀o' u',X.Nr kS≠some (.cM o' u'))
  (h1:Same H1 H) (d1:H1 D=none) (s1:H1 kS=none) (hi:Vals (nW ns) its) (hz:ns.length≤1000)
  (hsp:∀n∈ns,∀(H2:Hp) (Q2:VK),Same H1 H2→(∀H3 t l,Same H2 H3→H3 t=some (.tup [.int ((key n).length:Nat), .ref l])→H3 l=some (.lst (nW (key n)))→Q2 (.ref t) H3)→sp [.int (n:Int)] H2 Q2 E0)
  (h:∀ns' H' s',Inv X pins σ H' s'→Same H1 H'→H' D=some (.lst (nW ns'))→ns'.Perm ns→ns'.Pairwise (fun x y=>Kd.Before (key x) (key y))→P (.done (.ret .none)) s'):
  wpAny (model X.prog X.w) X.A.in1.in1 (ksk_rest D (.ref f) false its.toArray e1 (.ref kS)) P E s:=by
 obtain⟨il,ig⟩:=Gn hi;have hu:X.A.in1.in1.units<cLine:=by have:=hr.in1.in1.un;omega
 unfold ksk_rest;refine wpAny_bind (wpAny_rule ?_);rw[List.forIn_toArray];refine wpAny_bind (ksk_fold (fun i s'=>∃(H':Hp) (ts:List Addr) (ok:Obj),Inv X pins σ H' s'∧Same H1 H'∧H' D=some (.cM {cls:= .type "list",data:= .seq #[] e1} (.lst []))∧H' kS=some (.cM ok (.lst (ts.map V.ref)))∧ts.length=i∧
   ∀(j:Nat) (t:Addr) (n:Nat),ts[j]?=some t→ns[j]?=some n→∃l,H' t=some (.tup [.int ((key n).length:Nat), .ref l])∧H' l=some (.lst (nW (key n)))) its 0 s
  ⟨H,[],ok,I,h1,hD,hS,rfl,fun j t n e=>by simp at e⟩ ?step ?done)
 case step=>
  rintro j x s' hx ⟨H',ts,ok',I',h1',hD',hS',hl,hk⟩;simp only[Nat.zero_add]at hl⊢;have hj:j<its.length:=(List.getElem?_eq_some_iff.mp hx).1;have hjn:j<ns.length:=by omega
  obtain⟨tk,et⟩:=ig j hjn;rw[hx]at et;cases et;refine wpAny_bind (wpAny_attempt (wpAny_mono (ahp (Q:=fun v H3=>Same H' H3∧∃t l,v= .ref t∧H3 t=some (.tup [.int ((key ns[j]).length:Nat), .ref l])∧H3 l=some (.lst (nW (key ns[j])))) (vs:=[.int (ns[j]:Nat)]) (E:=fun _ _=>False) F hr hb I' (.cons ⟨tk,rfl⟩ .nil)
   (hsp ns[j] (List.getElem_mem hjn) H' _ h1' fun H3 t l a b c=>⟨a,t,l,rfl,b,c⟩)) (fun u s2 he=>?_) fun _ _ hF=>hF.elim))
  obtain⟨v,H3,I3,rv,sm,t,l,rfl,ht,akm⟩:=he;have rv:u=Value.ref t:=rv;subst rv;dsimp only;have hS3:=sm _ _ hS';have hD3:=sm _ _ hD';have I4:=I3.unlock hS3 nS;obtain⟨z4,jts,m,r4,l4,g4⟩:=I4.Qj (l:=kS) aq;rw[List.length_map]at l4;have r5:Vals ((ts++[t]).map V.ref) (jts++[Value.ref t]):=by
   rw[List.map_append];exact r4.append (.cons rfl .nil)
  have I5:=I4.S8 (its':=jts++[Value.ref t]) (ys:=(ts++[t]).map V.ref) (f:=(·.push (Value.ref t))) (t':=s2.toks) aq g4 (by simp) r5 (by simp;rw[sizeLine_eq];omega);rw[cU]at I5;obtain⟨ok2,I6⟩:=I5.lock aq trivial;rw[cU]at I6;refine wpAny_bind (listUpdate_at g4 rfl ?_ (by rw[List.size_toArray,sizeLine_eq];omega) (by rw[Array.size_push,List.size_toArray,sizeLine_eq];omega));have nf:∀{b o},H3 b=some o→(∀o' u',o≠ .cM o' u')→b≠kS:=fun{b o} e hne z=>by
   rw[z,hS3]at e;cases e;exact hne _ _ rfl
  refine wpAny_pure ⟨rfl,upd H3 kS (.cM ok2 (.lst ((ts++[t]).map V.ref))),ts++[t],ok2,I6,fun b o e=>?_,?_,aq,by simp[hl],fun j' t' n' e1 e2=>?_⟩
  ·rw[aJ (aQ e s1)]
   exact sm _ _ (h1' _ _ e)
  ·rw[aJ Ww]
   exact hD3
  ·have:∃l,H3 t'=some (.tup [.int ((key n').length:Nat), .ref l])∧H3 l=some (.lst (nW (key n'))):=by
    by_cases hlt:j'<ts.length
    ·rw[List.getElem?_append_left hlt]at e1
     obtain⟨l',a,b⟩:=hk j' t' n' e1 e2;exact⟨l',sm _ _ a,sm _ _ b⟩
    ·have hj':j'=ts.length:=by
      have:=(List.getElem?_eq_some_iff.mp e1).1;simp at this;omega
     subst hj';simp at e1;subst e1;rw[hl,List.getElem?_eq_getElem hjn]at e2;cases e2;exact⟨l,ht,akm⟩
   obtain⟨l',a,b⟩:=this;exact⟨l',by rw[aJ (nf a fun _ _ z=>nomatch z)];exact a,by rw[aJ (nf b fun _ _ z=>nomatch z)];exact b⟩
 case done=>
  rintro s' ⟨H',ts,ok',I',h1',hD',hS',hl,hk⟩;obtain⟨gk,z4,jts,m,r4,g4⟩:=I'.hok kS _ hS';have ej:jts=ts.map Value.ref:=by
   have:∀(ts:List Addr) (jts:List Value),Vals (ts.map V.ref) jts→jts=ts.map Value.ref:=by
    intro ts
    induction ts with
    |nil=>exact fun jts r=>Vals.zero r
    |cons a ts ih=>
     intro jts r;cases r with
     |cons a b=>rw[ih _ b,show _=Value.ref _ from a];rfl
   exact this ts jts r4
  subst ej;refine wpAny_bind (listItems_at g4 rfl ?_);refine ahq hu I' hD' hS' Ww nD nS hi hz (by omega) hk fun ns' s2 I2 p w=>h ns' _ s2 I2 (fun b o e=>?_) aq p w
  rw[aJ (aQ e d1),aJ (aQ e s1)];exact h1' _ _ e
theorem afZ {k:Nat}{f:Addr}{fd:FuncData}{ps:List Str}{sp:Sp}(F:bK X.prog X.w X.K X.mg X.base cV k f fd ps sp) (hr:iY (k+2) X.A) (hb:Binds X.K fd ps [])
  (I:Inv X pins σ (upd H D (.lst (nW ns))) s) (d1:H D=none){n:Nat}(gD:s.heap.get? D=some {cls:= .type "list",data:= .seq its.toArray n}) (hi:Vals (nW ns) its) (hz:ns.length≤1000)
  (hsp:∀n∈ns,∀(H2:Hp) (Q2:VK),Same H H2→(∀H3 t l,Same H2 H3→H3 t=some (.tup [.int ((key n).length:Nat), .ref l])→H3 l=some (.lst (nW (key n)))→Q2 (.ref t) H3)→sp [.int (n:Int)] H2 Q2 E0)
  (h:∀ns' H' s',Inv X pins σ H' s'→Same H H'→H' D=some (.lst (nW ns'))→ns'.Perm ns→ns'.Pairwise (fun x y=>Kd.Before (key x) (key y))→P (.done (.ret .none)) s'):
  wpAny (model X.prog X.w) X.A.in1.in1 (ksk_tree D (.ref f) false) P E s:=by
 obtain⟨il,_⟩:=Gn hi;have I1:=I.S8 (its':=[]) (ys:=[]) (f:=fun _=> #[]) (t':=s.toks) aq gD rfl .nil (Nat.zero_le _);rw[cU]at I1;have nD:=I1.NQ aq trivial;obtain⟨od,I2⟩:=I1.lock aq trivial;rw[cU]at I2;obtain⟨_,jts,e1,r1,g1⟩:=I1.hok D _ aq;cases Vals.zero r1;have eo:=(I2.hok D _ aq).1;rw[g1]at eo;have eo:{cls:=Value.type "list",data:=Data.seq #[] e1}=od:=Option.some.inj eo;subst eo;unfold ksk_tree;refine wpAny_bind (listItems_at gD rfl ?_);refine wpAny_bind (listUpdate_at gD rfl ?_ (by rw[List.size_toArray,sizeLine_eq];omega) (Nat.zero_le _));refine wpAny_bind (seqEpoch_at (s:={s with heap:=s.heap.update D (Obj.mapSeq fun _=> #[])}) g1 rfl ?_);refine wpAny_bind (wpAny_newTuple ?_ (by show its.length≤_;rw[sizeLine_eq];omega));refine wpAny_bind (wpAny_newList ?_ (Nat.zero_le _));refine wpAny_holding ?_;have I3:=I2.kept (h':=(s.heap.update D (Obj.mapSeq fun _=> #[])).push (seqObj "tuple" its.toArray 0)) (t':=s.toks) fun b u q=>Heap.get?_push_of_some _ q
 have I4:=I3.agQ (its:=[]) (ys:=[]) (t':=s.toks) .nil (Nat.zero_le _);have Ww:D≠((s.heap.update D (Obj.mapSeq fun _=> #[])).push (seqObj "tuple" its.toArray 0)).objs.size:=Nat.ne_of_lt (I3.hok.lt (a:=D) aq);have s1:H ((s.heap.update D (Obj.mapSeq fun _=> #[])).push (seqObj "tuple" its.toArray 0)).objs.size=none:=by
  have:=I3.fresh;rw[aJ (Ne.symm Ww)]at this;exact this
 have nS:=I4.NQ aq trivial;obtain⟨ok,I5⟩:=I4.lock aq trivial;rw[cU]at I5;refine afY F hr hb I5 (by rw[aJ Ww];exact aq) aq Ww nD nS (fun b o e=>?_) d1 s1 hi hz hsp h;rw[aJ (aQ e s1),aJ (aQ e d1)];exact e
end
def Gp (K:PySem.W.Frag) (sp:Sp) (E:XK) (ta:TE):TE:=fun σ H Q=>ta σ H fun x H1=>∃(a:Addr) (ns:List Nat) (key:Nat→List Nat),x= .ref a∧dR K H1 a (nW ns)∧ns.length≤1000∧(∀n∈ns,(key n).length≤100)∧
 (∀n∈ns,∀(H2:Hp) (Q2:VK),Same H1 H2→(∀H3 t l,Same H2 H3→H3 t=some (.tup [.int ((key n).length:Nat), .ref l])→H3 l=some (.lst (nW (key n)))→Q2 (.ref t) H3)→sp [.int (n:Int)] H2 Q2 E)∧
 ∀(ns':List Nat) (H':Hp) (p:Addr),Same H1 H'→H1 p=none→H' p=some (.lst (nW ns'))→ns'.Perm ns→ns'.Pairwise (fun x y=>Kd.Before (key x) (key y))→Q (.ref p) H'
theorem Wx {X:Cx}{k:Nat}{f:Addr}{fd:FuncData}{ps:List Str}{sp:Sp}{x:Str}{p p2 kpos pos:Pos}{e:Expr}{te:TE}(F:bK X.prog X.w X.K X.mg X.base cV k f fd ps sp) (hr:iY (k+2) X.A) (hg:Gl X "sorted") (hm:X.mg "sorted"=none) (hv:bootBuiltins "sorted"=some (.builtin "sorted"))
  (hgf:Gl X x) (hmf:X.mg x=some (.ref f)) (hk:PySem.W.keepIn X.K (.ref f)=true) (hb:Binds X.K fd ps []) (ha:PE X e te) (hdb:(x==("__debug__":Str))=false:=by decide)
  (he:starEach [e] X.env=(false,eval e X.env)::starEach [] X.env:=by rfl):PE X (.Call (.Name "sorted" p) [e] [⟨some "key", .Name x p2,kpos⟩] pos) (Gp X.K sp E0 te):=by
 intro pins s σ H Q I h;refine wpAny_Call_Name_kw (Hq I hg hm hv ?_ (by decide) (by decide));refine callWith_builtin_kwB (by rw[he];rfl) rfl ?_;refine evalArgs_kw2 (by rfl) ?_ he;refine cN ((ak ha ao he) pos pins s σ H (fun vs H1=>match vs with|[x]=>Gp X.K sp E0 (fun _ H Q=>Q x H) σ H1 Q|_=>False) I h) fun us s1 ⟨vs,H1,I1,r1,q1⟩=>?_
 match vs,q1 with
 |[v],q1=>
  have hn:PE X (.Name x p2) (fun _ H Q=>Q (.ref f) H):=fun pins s σ H Q I h=>Fp I hgf hmf ⟨.ref f,H,I,rfl,h⟩ hdb
  refine cN ((agL hn ain) pos pins s1 σ H1 (fun vs' H2=>vs'=[V.ref f]∧Gp X.K sp E0 (fun _ H Q=>Q v H) σ H2 Q) I1 ⟨rfl,q1⟩) fun ks s2 ⟨vs',H2,I2,r2,e2,q2⟩=>?_
  subst e2;rw[Vals.IK r2];obtain⟨u,rfl,ru⟩:=r1.one;obtain⟨a,ns,key,rfl,hsq,hz,_,hsp,q⟩:=q2;have ru:u=Value.ref a:=ru;subst ru;obtain⟨its,ri,pl,_⟩:=I2.list hsq;obtain⟨il,_⟩:=Gn ri;have hl:=pl.isList;show wpAny (model X.prog X.w) X.A (call (.builtin "sorted") [.ref a] [(Str.ofString "key", .ref f)]) (EP X pins σ Q) X.xe s2;refine call_function_entry_kw kind_sorted plain_sorted entry_sorted (ksk_s1 _ _) ?_;unfold Builtin.«sorted»;refine wpAny_bind (m:=checkCount "sorted" 1 1 _) (wpAny_pure ?_);refine wpAny_bind (collect_list hl ?_ (by rw[sizeLine_eq];omega));refine wpAny_bind (wpAny_newList ?_ (by rw[sizeLine_eq];omega));have keep:∀b o,s2.heap.get? b=some o→((s2.heap.push (seqObj "list" #[] 0)).update s2.heap.objs.size (Obj.mapSeq (·++its.toArray))).get? b=some o:=fun b o q=>by
   have hlt:b<s2.heap.objs.size:=Heap.lt_size q;rw[Heap.get?_update_ne _ _ _ _ (Nat.ne_of_lt hlt),Heap.get?_push_ne _ _ _ (Nat.ne_of_lt hlt)];exact q
  have I3:=I2.kept (t':=s2.toks) keep;have I4:=I3.agQ (its:=its) (ys:=nW ns) (t':=s2.toks) ri (by rw[List.length_map,sizeLine_eq];omega);have d1:=I3.fresh;refine wpAny_bind (wpAny_holding (wpAny_call_entry_kw slot_list_sort ⟨_,Heap.get?_push_size _ rfl,rfl⟩ entry_list_sort ?body (ksk_l1 _ _)));case body=>
   show wpAny (model X.prog X.w) X.A.in1.in1 (Builtin.«list.sort» ⟨[.ref _],[(Str.ofString "key", .ref f)]⟩) _ _ _;rw[ksk_t1];refine afZ F hr hb I4 d1 (Heap.get?_push_size _ rfl) ri hz hsp fun ns' H' s' I' sm hD pm pw=>⟨_,rfl,?_⟩
   exact wpAny_pure ⟨_,rfl, .ref _,H',I',rfl,q ns' H' _ sm d1 hD pm pw⟩
end Hs
end
section
namespace Hs
open PySem PySem.Spec PyProof.Rows L2 Hk
def qH (xs:Array Nat):Prop:=xs.toList.Pairwise (·<·)
theorem qH.lt {xs:Array Nat}(h:qH xs){i k:Nat}(hik:i<k) (hk:k<xs.size):xs[i]'(by omega)<xs[k]:=by
 have:=List.pairwise_iff_getElem.mp h i k (by simp;omega) (by simpa using hk) hik;simpa using this
theorem Oi {xs:Array Nat}(hx:qH xs) (j:Nat):∀(fuel lo hi:Nat),hi-lo≤fuel→lo≤hi→hi≤xs.size→(∀i (h:i<xs.size),i<lo→xs[i]<j)→(∀i (h:i<xs.size),hi≤i→j≤xs[i])→
  (SetTable.below.go xs j fuel lo hi≤xs.size)∧(∀i (h:i<xs.size),i<SetTable.below.go xs j fuel lo hi→xs[i]<j)∧(∀i (h:i<xs.size),SetTable.below.go xs j fuel lo hi≤i→j≤xs[i])
 |0,lo,hi,hf,hl,hh,a,b=>by
  have:lo=hi:=by omega
  subst this;exact⟨hh,a,b⟩
 |fuel+1,lo,hi,hf,hl,hh,a,b=>by
  unfold SetTable.below.go
  split
  ·rename_i hlt
   have hm:(lo+hi)/2<xs.size:=by omega
   dsimp only;rw[show xs.getD ((lo+hi)/2) j=xs[(lo+hi)/2] by simp[Array.getD,hm]]
   split
   ·rename_i hq
    refine Oi hx j fuel _ hi (by omega) (by omega) hh (fun i h hi'=>?_) b;by_cases e:i=(lo+hi)/2
    ·subst e;exact hq
    ·exact Nat.lt_trans (hx.lt (by omega) hm) hq
   ·rename_i hq
    refine Oi hx j fuel lo _ (by omega) (by omega) (by omega) a fun i h hi'=>?_
    by_cases e:i=(lo+hi)/2
    ·subst e;omega
    ·have:=hx.lt (show(lo+hi)/2<i by omega) h
     omega
  ·have:lo=hi:=by omega
   subst this;exact⟨hh,a,b⟩
theorem Qz {xs:Array Nat}(hx:qH xs) (j:Nat):SetTable.below xs j≤xs.size∧(∀i (h:i<xs.size),i<SetTable.below xs j→xs[i]<j)∧(∀i (h:i<xs.size),SetTable.below xs j≤i→j≤xs[i]):=
 Oi hx j xs.size 0 xs.size (by omega) (Nat.zero_le _) (Nat.le_refl _) (fun _ _ h=>by omega) fun _ h h'=>by omega
theorem Uq {xs:Array Nat}(hx:qH xs){j:Nat}(hj:xs[SetTable.below xs j]?≠some j):qH (SetTable.insertAt xs (SetTable.below xs j) j):=by
 obtain⟨b1,b2,b3⟩:=Qz hx j;unfold qH;rw[SetTable.toList_insertAt,List.pairwise_append,List.pairwise_cons];refine⟨hx.take,⟨fun y hy=>?_,hx.drop⟩,fun y hy z hz=>?_⟩
 ·obtain⟨i,hi,e⟩:=List.mem_iff_getElem.mp hy
  rw[List.getElem_drop]at e;rw[List.length_drop,Array.length_toList]at hi;have hp:SetTable.below xs j<xs.size:=by omega
  have h1:=b3 _ hp (Nat.le_refl _);have h2:xs[SetTable.below xs j]≠j:=fun q=>hj (by rw[Array.getElem?_eq_getElem hp,q])
  rw[Array.getElem_toList]at e;by_cases hi0:i=0
  ·subst hi0
   simp only[Nat.add_zero]at e;omega
  ·have h3:=hx.lt (show SetTable.below xs j<SetTable.below xs j+i by omega) (by omega)
   omega
 ·obtain⟨i,hi,e⟩:=List.mem_iff_getElem.mp hy
  rw[List.getElem_take,Array.getElem_toList]at e;rw[List.length_take,Array.length_toList]at hi;have h1:=b2 i (by omega) (by omega);rcases List.mem_cons.mp hz with rfl|hz
  ·omega
  ·obtain⟨k,hk,e'⟩:=List.mem_iff_getElem.mp hz
   rw[List.getElem_drop,Array.getElem_toList]at e';rw[List.length_drop,Array.length_toList]at hk;have h2:=b3 (SetTable.below xs j+k) (by omega) (by omega);omega
theorem aed {t:SetTable}{j:Nat}(h:∀i,t.slot j≠ .live i):t.place[SetTable.below t.place j]?≠some j:=fun e=>by
 unfold SetTable.slot at h;dsimp only at h;rw[if_pos (by rw[e];simp)]at h;exact h _ rfl
theorem Gq {t:SetTable}{f:Nat→Int}{h:Int}:∀(fuel:Nat) (p:SetTable.Probe){j:Nat}{d:Option Nat},(∀x,p.dummy=some x→t.slot x= .dummy)→SetTable.probe.go t f h fuel p=some (.empty j d)→t.slot j= .empty∧∀x,d=some x→t.slot x= .dummy
 |0,p,j,d,_,e=>by simp[SetTable.probe.go]at e
 |fuel+1,p,j,d,hp,e=>by
  unfold SetTable.probe.go at e
  split at e
  ·rename_i hs
   simp only[Option.some.injEq,SetTable.Met.empty.injEq]at e;obtain⟨rfl,rfl⟩:=e;exact⟨hs,hp⟩
  ·rename_i hs
   refine Gq fuel _ (fun x hx=>?_) e;have:some p.j=some x:=by
    unfold SetTable.advance at hx
    split at hx
    ·exact hx
    ·exact hx
   cases this;exact hs
  ·split at e
   ·simp at e
   ·refine Gq fuel _ (fun x hx=>hp x ?_) e
    unfold SetTable.advance at hx
    split at hx
    ·exact hx
    ·exact hx
theorem Ur {t:SetTable}{h:Int}{j:Nat}{b:Bool}(e:t.freeSlot h=some (j,b)):t.place[SetTable.below t.place j]?≠some j:=by
 unfold SetTable.freeSlot at e
 split at e
 ·rename_i j' d he
  simp only[Option.some.injEq,Prod.mk.injEq]at e;obtain⟨e1,e2⟩:=e;unfold SetTable.probe at he;obtain⟨a,b⟩:=Gq _ _ (fun x hx=>by simp[SetTable.probeStart]at hx) he;refine aed fun i hi=>?_
  cases d with
  |none=>
   simp only[Option.getD_none]at e1;subst e1;rw[a]at hi;cases hi
  |some y=>
   simp only[Option.getD_some]at e1;subst e1;rw[b y rfl]at hi;cases hi
 ·cases e
theorem Wy (n:Nat):qH (Array.range n):=by
 unfold qH;rw[Array.toList_range];exact List.pairwise_lt_range
def TabOk (w:World) (t:SetTable):Prop:=qH t.place∧(w.params.followText "set-order"=false→t.led=true)
theorem TabOk.standIn {w:World}{t:SetTable}(h:TabOk w t) (n:Nat):TabOk w (t.standIn n):=⟨Wy n,h.2⟩
theorem TabOk.orStandIn {w:World}{t:SetTable}(h:TabOk w t) (n:Nat):TabOk w (t.orStandIn n):=by
 unfold SetTable.orStandIn
 split
 ·exact h
 ·exact h.standIn n
theorem TabOk.layNew {w:World}{t:SetTable}(h:TabOk w t) (es:Array (Int×Value)) (k:Int) (x:Value):TabOk w (layNew t es k x).2.1:=by
 unfold PySem.layNew
 split
 ·rename_i j b e
  exact TabOk.orStandIn (t:=(t.put j).1) ⟨Uq h.1 (Ur e),h.2⟩ _
 ·exact h.standIn _
theorem TabOk.relayAll {w:World}{t:SetTable}(h:TabOk w t) (es:Array (Int×Value)) (n:Nat):TabOk w (relayAll t es n).2.1:=by
 unfold PySem.relayAll
 split
 ·rename_i t' order e
  dsimp only
  split
  ·unfold SetTable.relaid SetTable.laid at e
   simp only[Option.bind_eq_bind,Option.bind_eq_some_iff,Option.pure_def,Option.some.injEq,Prod.mk.injEq]at e;obtain⟨ow,_,rfl,_⟩:=e;refine⟨?_,h.2⟩;unfold qH;dsimp only;rw[List.pairwise_map,List.pairwise_filterMap];refine List.pairwise_lt_range.imp fun{a b} hab x hx y hy=>?_
   rw[Option.map_eq_some_iff]at hx hy;obtain⟨_,_,rfl⟩:=hx;obtain⟨_,_,rfl⟩:=hy;exact hab
  ·exact h.standIn _
 ·exact h.standIn _
def SetT (P:Program) (w:World) (a:Addr) (S:Int→Bool) (n:Nat) (h:Heap):Prop:=
 ∃o es ep t,h.get? a=some o∧o.ExactSet∧o.data= .set es ep t∧ElemsOf (PySem.intKind P w) es.toList∧(∀k,S k=true↔∃e∈es.toList,(PySem.intKind P w).is k e.2=true)
  ∧es.size<scanBound∧t.fits es.size=true∧es.size=n∧TabOk w t
section
variable {prog:Program}{w:World}{A:Around}{E:Value→Shared→Prop}{s:Shared}{a:Addr}
theorem SetT.keep {S:Int→Bool}{n:Nat}{h h':Heap}(x:SetT prog w a S n h) (k:∀o,h.get? a=some o→h'.get? a=some o):SetT prog w a S n h':=
 let⟨o,es,ep,t,g,r⟩:=x;⟨o,es,ep,t,k _ g,r⟩
theorem SetT.congr {S S':Int→Bool}{n n':Nat}{h:Heap}(x:SetT prog w a S n h) (e:∀k,S k=S' k) (en:n=n'):SetT prog w a S' n' h:=by
 obtain rfl:S=S':=funext e;subst en;exact x
theorem SetT.store {h:Heap}{o:Obj}{es:Array (Int×Value)}{ep:Nat}{t:SetTable}(g:h.get? a=some o) (hx:o.ExactSet) (hdt:o.data= .set es ep t){es':Array (Int×Value)}{t':SetTable}{S':Int→Bool}{n:Nat}(q1:ElemsOf (PySem.intKind prog w) es'.toList)
  (q2:∀k,S' k=true↔∃e∈es'.toList,(PySem.intKind prog w).is k e.2=true) (q3:es'.size<scanBound) (q4:t'.fits es'.size=true) (q5:es'.size=n) (q6:TabOk w t'):
  (h.update a (Obj.putSet es' t')).get? a=some {o with data:= .set es' (ep+1) t'}∧SetT prog w a S' n (h.update a (Obj.putSet es' t')):=by
 obtain⟨g',_⟩:=SetOf_store (knd:=PySem.intKind prog w) g hx hdt q1 q2 q3 q4;exact⟨g',_,es',ep+1,t',g',hx,rfl,q1,q2,q3,q4,q5,q6⟩
theorem Y4 {G:Bool→Sem Unit}(hG:∀(b:Bool) (z:Shared) (Q':Unit→Shared→Prop),Q' () z→wpAny (model prog w) A (G b) Q' E z){o:Obj}{es:Array (Int×Value)}{ep:Nat}{t:SetTable}(g:s.heap.get? a=some o) (hx:o.ExactSet) (hdt:o.data= .set es ep t)
  {fs:Array (Int×Value)}{u:SetTable}{S':Int→Bool}(q1:ElemsOf (PySem.intKind prog w) fs.toList) (q2:∀k',S' k'=true↔∃e∈fs.toList,(PySem.intKind prog w).is k' e.2=true) (q3:fs.size<scanBound) (q4:u.fits fs.size=true) (q6:TabOk w u){dm:Bool}{R:Option Bool→Shared→Prop}
  (hR:∀h',Heap.SameBut a s.heap h'→SetT prog w a S' fs.size h'→R (some true) {s with heap:=h'}):
  wpAny (model prog w) A (do
    storeSet a fs u
    if (!dm&&u.tooFull)=true then do
      G (relayAll u fs (SetTable.grown fs.size)).2.2
      storeSet a (relayAll u fs (SetTable.grown fs.size)).1 (relayAll u fs (SetTable.grown fs.size)).2.1
      pure (some true)
     else pure (some true)) R E s:=by
 refine wpAny_bind (wpAny_storeSet_of g hdt ?_ (fits_of_scanBound q3));obtain⟨g1,y1⟩:=SetT.store (n:=fs.size) g hx hdt q1 q2 q3 q4 rfl q6;have k1:=Heap.SameBut.update s.heap a (Obj.putSet fs u)
 split
 ·have z1:=relayAll_perm u fs (SetTable.grown fs.size)
  have z2:=relayAll_fits u fs (SetTable.grown fs.size);have z3:=q6.relayAll fs (SetTable.grown fs.size);generalize relayAll u fs (SetTable.grown fs.size)=Z at z1 z2 z3⊢;obtain⟨es2,t3,gv⟩:=Z;dsimp only at z1 z2 z3⊢;have sz:es2.size=fs.size:=by rw[←Array.length_toList,z1.length_eq,Array.length_toList]
  have r3:es2.size<scanBound:=by rw[sz];exact q3
  refine wpAny_bind (hG _ _ _ (wpAny_bind (wpAny_storeSet_of g1 rfl ?_ (fits_of_scanBound r3))));obtain⟨_,y2⟩:=SetT.store (n:=fs.size) g1 hx rfl (q1.perm z1) (fun k'=>(q2 k').trans ⟨fun⟨e,he,q⟩=>⟨e,z1.mem_iff.mpr he,q⟩,fun⟨e,he,q⟩=>⟨e,z1.mem_iff.mp he,q⟩⟩) r3 z2 sz z3;exact wpAny_pure (hR _ (k1.trans (Heap.SameBut.update _ a _)) y2)
 ·exact wpAny_pure (hR _ k1 y1)
theorem ajO {S:Int→Bool}{n:Nat}{k:Int}{tk:Tok}{Q:Bool→Shared→Prop}(hS:SetT prog w a S n s.heap) (hroom:n+1<scanBound)
  (h:∀h',Heap.SameBut a s.heap h'→SetT prog w a (fun k'=>S k'||decide (k'=k)) (if S k then n else n+1) h'→Q (!S k) {s with heap:=h'}):
  wpAny (model prog w) A (setAddHashed a (.int k tk) ((PySem.intKind prog w).hash k)) Q E s:=by
 obtain⟨o,es,ep,t,g,hx,hdt,hel,hmem,hbd,hft,hn,hT⟩:=hS;have hkey:(PySem.intKind prog w).is k (.int k tk)=true:=intKind_is _ _ _ _;have hsc:(Value.int k tk).scannable=true:=rfl;unfold setAddHashed setAddHashedIn;refine wpAny_holding (wpAny_bind (wpAny_setState_of g hdt hft ?_));dsimp only;rw[byScan_of hsc hbd hel];simp only[↓reduceIte];unfold setAddByScan;refine wpAny_bind (wpAny_bind (wpAny_rule (wpAny_bind (wpAny_setScan_of hkey g hdt hft hel ?_))));cases hr:List.findIdx? (fun e=>(PySem.intKind prog w).is k e.2) es.toList with
 |some j=>
  dsimp only;obtain⟨hj,hpj,_⟩:=List.findIdx?_eq_some_iff_getElem.mp hr;have hSk:S k=true:=(hmem k).mpr ⟨es.toList[j],List.getElem_mem hj,hpj⟩;refine wpAny_pure (wpAny_pure ?_);have z:=h s.heap (Heap.SameBut.refl a s.heap) ⟨o,es,ep,t,g,hx,hdt,hel,fun k'=>by
   rw[Bool.or_eq_true,decide_eq_true_eq,←hmem k'];exact⟨fun hk=>hk.elim id (fun e=>e▸hSk), .inl⟩,hbd,hft,by rw[hSk];exact hn,hT⟩
  rw[hSk]at z;exact z
 |none=>
  dsimp only;have hSk:S k=false:=by
   cases hk:S k with
   |false=>rfl
   |true=>
    obtain⟨e,he,hp⟩:=(hmem k).mp hk;have c:=List.findIdx?_eq_none_iff.mp hr e he;rw[hp]at c;cases c
  have z1:=layNew_perm t es ((PySem.intKind prog w).hash k) (.int k tk);have z2:=layNew_fits t es ((PySem.intKind prog w).hash k) (.int k tk);have z3:=hT.layNew es ((PySem.intKind prog w).hash k) (.int k tk);generalize layNew t es ((PySem.intKind prog w).hash k) (.int k tk)=Z at z1 z2 z3⊢;obtain⟨fs,u,dm,gave⟩:=Z;dsimp only at z1 z2 z3⊢;rw[Array.toList_push]at z1;have q1:=(hel.push hkey hsc).perm z1;have q2:∀k',(S k'||decide (k'=k))=true↔∃e∈fs.toList,(PySem.intKind prog w).is k' e.2=true:=mem_push_iff hkey hmem z1
  have sz:fs.size=n+1:=by
   rw[←Array.length_toList,z1.length_eq,List.length_append,Array.length_toList,hn];rfl
  have q3:fs.size<scanBound:=by rw[sz];exact hroom
  have fin:∀h',Heap.SameBut a s.heap h'→SetT prog w a (fun k'=>S k'||decide (k'=k)) fs.size h'→Q true {s with heap:=h'}:=by
   intro h' k1 k2;have z:=h h' k1;rw[hSk]at z;rw[sz]at k2;exact z k2
  have hG:∀(b:Bool) (z:Shared) (Q':Unit→Shared→Prop),Q' () z→wpAny (model prog w) A (match b with|true=>rule "set.scan.the-table-gave-way"|false=>pure ()) Q' E z:=fun b z Q' hq=>by
   cases b
   ·exact wpAny_pure hq
   ·exact wpAny_rule hq
  refine wpAny_bind (hG _ _ _ ?_)
  split
  ·refine wpAny_bind ?_
   rw[hashByValue_scannable 8 hsc];refine wpAny_pure (Y4 (fun b z Q' hq=>?_) g hx hdt q1 q2 q3 z2 z3 fun h' k1 k2=>?_)
   ·exact hG b z Q' hq
   ·dsimp only
    exact wpAny_pure (fin h' k1 k2)
  ·refine wpAny_bind (wpAny_pure ?_)
   simp only[↓reduceIte];refine Y4 (fun b z Q' hq=>?_) g hx hdt q1 q2 q3 z2 z3 fun h' k1 k2=>?_
   ·exact hG b z Q' hq
   ·dsimp only
    exact wpAny_pure (fin h' k1 k2)
end
end Hs
end
section
set_option maxHeartbeats 3200000
namespace Hs
open PySem PySem.Spec PyProof.Rows L2 Hk
section
variable {prog:Program}{w:World}{A:Around}{E:Value→Shared→Prop}{s:Shared}
theorem Wz (val:Nat→Int) (i:Nat) (k:Int):k∈firstMet val i↔∃j,j<i∧val j=k:=by
 have a:=firstMet_any val i k;have b:(firstMet val i).any (·==k)=true↔k∈firstMet val i:=by simp
 have c:((List.range i).map val).any (·==k)=true↔∃j,j<i∧val j=k:=by simp
 rw[←b,a,c]
theorem vU (val:Nat→Int):∀i,(firstMet val i).Nodup
 |0=>by rw[firstMet_zero];exact List.nodup_nil
 |i+1=>by
  rw[firstMet_succ];unfold step_dedup
  split
  ·exact vU val i
  ·rename_i h
   refine List.nodup_append.mpr ⟨vU val i,by simp,fun x hx y hy=>?_⟩;rw[List.mem_singleton]at hy;subst hy;rintro rfl;exact h (by simpa using hx)
theorem af0 (σ:List Int) (v k:Int):decide (k∈step_dedup σ v)=(decide (k∈σ)||decide (k=v)):=by
 have a:=step_any σ v k;have e:∀l:List Int,l.any (·==k)=decide (k∈l):=fun l=>by
  rw[Bool.eq_iff_iff];simp
 rw[e,e]at a;exact a
theorem Oj (σ:List Int) (v:Int):(step_dedup σ v).length=if decide (v∈σ)then σ.length else σ.length+1:=by
 have a:=step_length σ v;have e:σ.any (·==v)=decide (v∈σ):=by
  rw[Bool.eq_iff_iff];simp
 rw[e]at a;exact a
theorem aiN {R:Result→Shared→Prop}{I S:Addr}{fp wr:List Addr}{G:Array GenState→Array GenState→Prop}{n:Nat}{P:Nat→Value→Prop}{St:Nat→Shared→Prop}(W:WalksS prog w A.in1 I fp wr G n P St) (nf:S∉fp) (val:Nat→Int)
  (hv:∀i v,P i v→∃t,v= .int (val i) t) (hb:n+1<scanBound):∀(k i:Nat) (z:Shared),n-i=k→i≤n→St i z→SetT prog w S (fun k'=>decide (k'∈firstMet val i)) (firstMet val i).length z.heap→
   (∀z',Moved (S::wr) G z z'→SetT prog w S (fun k'=>decide (k'∈firstMet val n)) (firstMet val n).length z'.heap→R (.ok (.ret .none)) z')→codeAny (model prog w) A (.builtin "set.update.loop" ⟨[.ref S, .ref I],[]⟩) R z:=by
 have nw:S∉wr:=fun h=>nf (W.sub _ h)
 have sb:∀b∈wr,b∈S::wr:=fun b h=>List.mem_cons_of_mem _ h
 intro k
 induction k with
 |zero=>
  intro i z hk hi hst hS hR;obtain rfl:i=n:=by omega
  refine codeAny_builtin PyProof.Rows.F.entry_set_update_loop ?_;rw[Around.under_plainId PyProof.Rows.F.plain_set_update_loop _];show wpAny _ A.in1 (pyNext (.ref I) >>= _) _ _ z;refine wpAny_bind (W.done z _ _ hst fun z' hm=>show wpAny _ A.in1 (ret Value.none) _ _ z' from wpAny_pure (hR z' (hm.mono sb) (hS.keep fun o e=>hm.heap S o nw e)))
 |succ k ih=>
  intro i z hk hi hst hS hR;have lt:i<n:=by omega
  refine codeAny_builtin PyProof.Rows.F.entry_set_update_loop ?_;rw[Around.under_plainId PyProof.Rows.F.plain_set_update_loop _];show wpAny _ A.in1 (pyNext (.ref I) >>= _) _ _ z;refine wpAny_bind (W.item i z _ _ lt hst fun v z' hP st' hm=>?_);obtain⟨t,rfl⟩:=hv i v hP;have S1:=hS.keep (h':=z'.heap) fun o e=>hm.heap S o nw e
  show wpAny _ A.in1 (holding [Value.int (val i) t] (setAdd S (.int (val i) t)) >>= _) _ _ z';refine wpAny_bind (wpAny_holding ?_);unfold setAdd;refine wpAny_holding (wpAny_bind ((PySem.intKind prog w).pyHash (k:=val i) (intKind_is _ _ _ _) ?_));refine ajO (s:={z' with toks:=z'.toks+1}) S1 (by have:=firstMet_length_le val i;omega) fun h' hsb S2=>?_
  have S3:SetT prog w S (fun k'=>decide (k'∈firstMet val (i+1))) (firstMet val (i+1)).length h':=S2.congr (fun k'=>by rw[firstMet_succ,af0]) (by rw[firstMet_succ,Oj]);refine wpAny_pure ⟨plainId_quiet PyProof.Rows.F.plain_set_update_loop _,ih (i+1) _ (by omega) lt (W.frame _ z' _ _ st' (Nat.le_succ _) fun b hb o e=>?_) S3 fun z2 m2 y2=>?_⟩
  ·rw[hsb.2 b fun h:b=S=>nf (h▸hb)]
   exact e
  ·refine hR z2 (Moved.trans W.gtrans ((hm.mono sb).then_heap (Nat.le_succ _) fun b o hb e=>?_) m2) y2
   rw[hsb.2 b fun h:b=S=>hb (h▸List.mem_cons_self)];exact e
abbrev Jf (w:World):Obj:={cls:= .type "set",dict:=none,data:= .set #[] 0 (.fresh 0 0 (!w.params.followText "set-order"))}
theorem ajP (a:Value){Q₁:Value→Shared→Prop}(h:Q₁ (.ref s.heap.objs.size) {s with heap:=s.heap.push (Jf w)}):
  codeAny (model prog w) A (.call (.builtin "set.__new__") ⟨[.type "set",a],[]⟩) (wants Q₁ E) s:=by
 refine codeAny_of_tree ?_;show wpAny _ A.in1 (do checkBuiltinCall "set.__new__" ⟨[.type "set",a],[]⟩;again (.builtin "set.__new__" ⟨[.type "set",a],[]⟩)) _ _ s;refine wpAny_bind (wpAny_of_eq (PySem.F.newCall_set_1 a) (wpAny_pure ⟨plainId_quiet PySem.F.plain_set_new _,codeAny_builtin PySem.F.entry_set_new ?_⟩));rw[Around.under_plainId PySem.F.plain_set_new _];unfold Builtin.«set.__new__» Builtin.Frozenset.newClass;have hsub:=sub_set_self;obtain⟨hp,g,d,tk,os⟩:=s;dsimp only
 wp_walk
 refine wpAny_askSetting (wpAny_pure ?_);dsimp only;simp only[newObj];refine wpAny_bind (wpAny_alloc (wpAny_pure (wpAny_pure ?_)));exact h
theorem ahr:TabOk w (.fresh 0 0 (!w.params.followText "set-order")):=⟨List.Pairwise.nil,fun h=>by show(!w.params.followText "set-order")=true;rw[h];rfl⟩
theorem aiO {l:Addr}{items:Array Value}{ns:List Int}{Q:Value→Shared→Prop}(hh:A.handled=none) (hl:s.heap.IsList l items) (hi:PyProof.Rows.IntsAre items.toList ns) (hb:items.size+1<scanBound)
  (h:∀(h':Heap) (tk:Nat) (d:List Int),d.Nodup→(∀k,k∈d↔k∈ns)→SetT prog w s.heap.objs.size (fun k=>decide (k∈d)) d.length h'→(∀b o,s.heap.get? b=some o→h'.get? b=some o)→Q (.ref s.heap.objs.size) {s with heap:=h',toks:=tk}):
  wpAny (model prog w) A (call (.type "set") [.ref l]) Q E s:=by
 obtain⟨c,tl,hmro⟩:=PySem.F.called_set.mro;have f1:=PySem.F.called_set.made;have f2:=PySem.F.called_set.sub;have f3:=PySem.F.called_set.notType;have f4:=PySem.F.called_set.canCreate;have f5:=PySem.F.typeCall_set_1 (.ref l);refine wpAny_call (codeAny_of_tree (show wpAny _ _ (callAny (.type "set") _) _ _ _ from wpAny_pure ⟨Code.quiet_builtin _ (by decide+kernel),codeAny_builtin PySem.F.entry_type_call ?_⟩));rw[Around.under_plain (weight_type_call_type "set" [.ref l] []) rfl];repeat (any_goals (first|assumption|wp_step))
 refine codeAny_mono (ajP (.ref l) (E:=E) (Q₁:=fun obj z=>obj= .ref s.heap.objs.size∧z={s with heap:=s.heap.push (Jf w)}) ⟨rfl,rfl⟩) fun r z hr=>?_
 cases r with
 |error e=>exact hr
 |ok fl=>
  cases fl with
  |ret obj=>
   obtain⟨rfl,rfl⟩:=hr;have gS:(s.heap.push (Jf w)).get? s.heap.objs.size=some (Jf w):=Heap.get?_push_size _ rfl;have hT:Shared.TypeIs {s with heap:=s.heap.push (Jf w)} (.ref s.heap.objs.size) "set":=⟨_,gS,rfl⟩;have f6:=PySem.F.called_set.init.lookup;have f7:=PySem.F.called_set.init.bind (.ref s.heap.objs.size);repeat (any_goals (first|assumption|wp_step))
   refine codeAny_mono (codeAny_call_builtin (R:=wants (fun r z=>r= .none∧∃(h':Heap) (tk:Nat),z={s with heap:=h',toks:=tk}∧
     SetT prog w s.heap.objs.size (fun k'=>decide (k'∈firstMet (fun i=>ns.getD i 0) items.size)) (firstMet (fun i=>ns.getD i 0) items.size).length h'∧
     (∀b o,s.heap.get? b=some o→h'.get? b=some o)) E) PySem.F.called_set.init.plain PySem.F.entry_set_init (check_set_init_1 hT ?_)) fun r2 z2 hr2=>?_
   ·obtain⟨⟨ocls,odict,odata,oslots⟩,gl,hcl,nl,hdl⟩:=hl
    simp only at hcl hdl;subst hcl hdl;have gl1:(s.heap.push (Jf w)).get? l=some {cls:= .type "list",dict:=odict,data:= .seq items nl,slots:=oslots}:=Heap.get?_push_of_some _ gl;have f8:=PySem.F.sub_list_set;have f9:=PySem.F.sub_list_frozenset;have f10:(Value.type "list"==Value.type "dict")=false:=by decide
    have hl1:(s.heap.push (Jf w)).IsList l items:=⟨_,gl1,rfl,nl,rfl⟩;unfold Builtin.«set.__init__» noKeywords Builtin.Frozenset.updateFrom;generalize hPI:pyIter=PI
    wp_walk
    subst hPI;refine wpAny_pyIter_list hl1 (wpAny_bind (wpAny_runValue ?_));have ll:l<s.heap.objs.size:=Heap.lt_size gl;have hh3:A.in1.in1.in1.handled=none:=by simp[hh]
    have n1:l≠(s.heap.push (Jf w)).objs.size:=by
     rw[Heap.size_push];exact Nat.ne_of_lt (Nat.lt_succ_of_lt ll)
    have n2:s.heap.objs.size∉[(s.heap.push (Jf w)).objs.size,l]:=by
     rw[Heap.size_push];simp only[List.mem_cons,List.not_mem_nil,or_false,not_or];exact⟨Nat.ne_of_lt (Nat.lt_succ_self _),Nat.ne_of_gt ll⟩
    refine aiN ((Walks.list hh3 _ l n1 items).toS) n2 (fun i=>ns.getD i 0) (fun i v hv=>PyProof.Rows.IntsAre.int_at hi i v (by rw[Array.getElem?_toList];exact hv)) hb (items.size-0) 0 _ (by omega) (Nat.zero_le _)
     ⟨⟨_,Heap.get?_push_size _ rfl,rfl,rfl⟩,hl1.push _⟩ ?_ fun z hm hS'=>?_
    ·refine⟨Jf w,#[],0,_,Heap.get?_push_of_some _ gS,⟨rfl,rfl,rfl⟩,rfl,fun e he=>by simp at he,fun k=>?_,by show 0<scanBound;unfold scanBound;omega,by simp[SetTable.fits,SetTable.fresh,SetTable.fill],rfl,ahr⟩
     rw[firstMet_zero];simp
    ·rw[Moved.eq_with hm]
     refine wpAny_pure (show wpAny _ _ (ret Value.none) _ _ _ from wpAny_pure ⟨rfl,z.heap,z.toks,rfl,hS',fun b o e=>?_⟩);have hb1:b<s.heap.objs.size:=Heap.lt_size e;refine hm.heap b o (fun hmm=>?_) (Heap.get?_push_of_some _ (Heap.get?_push_of_some _ e));simp only[List.mem_cons,List.not_mem_nil,or_false]at hmm;rw[Heap.size_push]at hmm;rcases hmm with q|q
     ·exact absurd q (Nat.ne_of_lt hb1)
     ·exact absurd q (Nat.ne_of_lt (Nat.lt_succ_of_lt hb1))
   ·cases r2 with
    |error e=>exact hr2
    |ok fl2=>
     cases fl2 with
     |ret r=>
      obtain⟨rfl,h',tk,rfl,hS',hk'⟩:=hr2;repeat (any_goals (first|assumption|wp_step))
      refine h _ _ _ (vU _ _) (fun k=>?_) hS' hk';rw[Wz];have hlen:=hi.length;rw[Array.length_toList]at hlen;constructor
      ·rintro⟨j,hj,e⟩
       rw[List.getD_eq_getElem?_getD,List.getElem?_eq_getElem (by omega),Option.getD_some]at e;rw[←e];exact List.getElem_mem _
      ·intro hk
       obtain⟨j,hj,e⟩:=List.mem_iff_getElem.mp hk;refine⟨j,by omega,?_⟩;rw[List.getD_eq_getElem?_getD,List.getElem?_eq_getElem hj,Option.getD_some];exact e
     |_=>exact hr2.elim
  |_=>exact hr.elim
end
def Us (P:Program) (w:World) (a:Addr) (d:List Int):HO:= .ext (SetT P w a (fun k=>decide (k∈d)) d.length)
theorem ahs {P:Program}{w:World}{H:Hp}{h:Heap}{a:Addr}{d:List Int}(x:SetT P w a (fun k=>decide (k∈d)) d.length h):fD P w H h a (Us P w a d):=
 ⟨x,let⟨o,_,_,_,g,_⟩:=x;⟨o,g⟩,fun _ _ x1 k=>x1.keep k⟩
def aiP (K:PySem.W.Frag) (P:Program) (w:World):List V→Hp→VK→Prop:=fun vs H Q=>∃(a:Addr) (ns:List Int),vs=[V.ref a]∧dR K H a (ns.map V.int)∧ns.length≤2000∧
 ∀(d:List Int) (p:Addr),d.Nodup→(∀k,k∈d↔k∈ns)→H p=none→Q (.ref p) (upd H p (Us P w p d))
theorem LQ {X:Cx}(hc:X.calm=true):rW X (.type "set") (aiP X.K X.prog X.w):=by
 intro pins s σ H vs us Q I r h;obtain⟨a,ns,rfl,hsq,hz,q⟩:=h;rw[Vals.IK r];obtain⟨its,ri,pl,_⟩:=I.list hsq;have hi:=Vals.ints ri;have hl:=hi.length;refine aiO (I.ok.hd hc) pl.isList (by simpa using hi) (by rw[List.size_toArray];unfold scanBound;omega) fun h' tk d nd hm hS hk=>?_
 exact⟨.ref s.heap.objs.size,upd H s.heap.objs.size (Us X.prog X.w s.heap.objs.size d),I.laid (t':=tk) hk (Nat.le_refl _) (ahs hS),rfl,q d _ nd hm I.fresh⟩
end Hs
end
section
set_option maxHeartbeats 3200000
namespace Hs
open PySem PySem.Spec PyProof.Rows L2 Hk
theorem j7:Slot "set_iterator" "__next__" "set_iterator.__next__":=
 .of (owner:="set_iterator") (n:="__next__") (by rw[typeLookup_type,builtinLookup_eq_fast];kernel_rfl) (by decide+kernel) (by decide+kernel) (by decide+kernel) (by first|exact .inl (by decide+kernel)|exact .inr (by decide+kernel)) (by rw[isSubtype_type];kernel_rfl)
theorem LR:entryFor table "set_iterator.__next__"=some Builtin.«set_iterator.__next__»:=entryFor_of_tree (by kernel_rfl)
theorem Ma (a:Value):argsOk "set_iterator.__next__" ⟨[a],[]⟩:=by unfold argsOk;kernel_rfl
theorem Mf:Slot "set_iterator" "__iter__" "set_iterator.__iter__":=
 .of (owner:="set_iterator") (n:="__iter__") (by rw[typeLookup_type,builtinLookup_eq_fast];kernel_rfl) (by decide+kernel) (by decide+kernel) (by decide+kernel) (by first|exact .inl (by decide+kernel)|exact .inr (by decide+kernel)) (by rw[isSubtype_type];kernel_rfl)
theorem aco:entryFor table "set_iterator.__iter__"=some Builtin.«dict_keyiterator.__iter__»:=entryFor_alias (id':="dict_keyiterator.__iter__") (by kernel_rfl) rfl (by decide+kernel) (by kernel_rfl)
theorem acp (a:Value):argsOk "set_iterator.__iter__" ⟨[a],[]⟩:=by unfold argsOk;kernel_rfl
theorem aht:entryFor table "set.__iter__"=some Builtin.«frozenset.__iter__»:=entryFor_alias (id':="frozenset.__iter__") (by kernel_rfl) rfl (by decide+kernel) (by kernel_rfl)
theorem Gs {α:Type}:∀(l:List α) (i:Nat) (h:i<l.length),(l[i]::l.eraseIdx i).Perm l
 |x::l,0,_=> .rfl
 |x::l,i+1,h=>(List.Perm.swap ..).trans ((Gs l i (by simpa using h)).cons x)
theorem Ut {α:Type}(next:Nat→Nat):∀(fuel k:Nat) (left:List α) (out:Array α),left.length≤fuel→(pickOrder.go next fuel k left out).toList.Perm (out.toList++left)
 |0,k,left,out,h=>by
  have:left=[]:=List.length_eq_zero_iff.mp (by omega);subst this;rw[List.append_nil];exact .rfl
 |fuel+1,k,left,out,h=>by
  unfold pickOrder.go;by_cases hl:left=[]
  ·subst hl
   simp
  ·have hp:next k%left.length<left.length:=Nat.mod_lt _ (List.length_pos_iff.mpr hl)
   rw[List.getElem?_eq_getElem hp];dsimp only;refine(Ut next fuel (k+1) _ _ (by rw[List.length_eraseIdx_of_lt hp];omega)).trans ?_;rw[Array.toList_push,List.append_assoc];exact(Gs left _ hp).append_left _
theorem Ez {α:Type}(next:Nat→Nat) (xs:Array α):(pickOrder next xs).toList.Perm xs.toList:=by
 have:=Ut next xs.size 0 xs.toList #[] (by simp);simpa[pickOrder]using this
section
variable {prog:Program}{w:World}{A:Around}{E:Value→Shared→Prop}{s:Shared}
theorem Uu {α:Type}:∀(n:Nat) (xs:List α) (z:Shared){Q:List α→Shared→Prop},xs.length≤n→(∀(ys:List α) (dr:Drawn),ys.Perm xs→Q ys {z with drawn:=dr})→wpAny (model prog w) A (drawOrder n xs) Q E z
 |0,xs,z,Q,hn,h=>by
  have:xs=[]:=List.length_eq_zero_iff.mp (by omega);subst this;unfold drawOrder;exact wpAny_pure (h [] z.drawn .rfl)
 |n+1,[],z,Q,hn,h=>by
  unfold drawOrder;exact wpAny_pure (h [] z.drawn .rfl)
 |n+1,x::xs,z,Q,hn,h=>by
  unfold drawOrder;refine fun Γ p hΓ=>?_
  rw[Sem.wp_bind'];show Sem.wp _ Γ (Sem.choose _ _ Sem.pure) _ _ p z;rw[Sem.wp_choose];refine⟨by simp,?_⟩;rw[Sem.wp_pure];generalize hi:(model prog w).w.draws Source.order (z.drawn.get Source.order)%(x::xs).length=i;have hp:i<(x::xs).length:=by rw[←hi];exact Nat.mod_lt _ (by simp)
  rw[List.getElem?_eq_getElem hp];dsimp only;refine(wpAny_bind (M:=model prog w) (A:=A) (Uu n ((x::xs).eraseIdx i) {z with drawn:=z.drawn.bump Source.order} (by rw[List.length_eraseIdx_of_lt hp];omega) fun ys dr hy=>wpAny_pure (h _ dr ?_))) Γ p hΓ;exact(hy.cons _).trans (Gs (x::xs) i hp)
structure Nx (prog:Program) (w:World) (a:Addr) (o:Obj) (n ep:Nat) (ord:List Value) (slots:Nat→Nat):Prop where
 len:ord.length=n
 zero:slots 0=0
 item:∀(i:Nat) (h:i<ord.length) (A:Around) (E:Value→Shared→Prop) (z:Shared) (Q:Option (Value×Nat)→Shared→Prop),z.heap.get? a=some o→Q (some (ord[i],slots (i+1))) z→wpAny (model prog w) A (setNext a (slots i) i ep) Q E z
 last:∀(A:Around) (E:Value→Shared→Prop) (z:Shared) (Q:Option (Value×Nat)→Shared→Prop),z.heap.get? a=some o→Q none z→wpAny (model prog w) A (setNext a (slots n) n ep) Q E z
theorem byText {Q:Bool→Shared→Prop}(h:Q (w.params.followText "set-order") s):wpAny (model prog w) A setsByText Q E s:=by
 unfold setsByText;exact wpAny_bind (wpAny_askSetting (wpAny_pure h))
theorem ahu {a:Addr}{o:Obj}{es:Array (Int×Value)}{ep:Nat}{t:SetTable}(hdt:o.data= .set es ep t) (hft:t.fits es.size=true) (ht:w.params.followText "set-order"=true):
  Nx prog w a o es.size ep ((pickOrder (w.params.setOrder a ep) es).toList.map (·.2)) (fun _=>0):=by
 have hl:(pickOrder (w.params.setOrder a ep) es).toList.length=es.size:=by rw[(Ez _ es).length_eq,Array.length_toList]
 have go:∀(i:Nat) (A:Around) (E:Value→Shared→Prop) (z:Shared) (Q:Option (Value×Nat)→Shared→Prop),z.heap.get? a=some o→Q (((pickOrder (w.params.setOrder a ep) es)[i]?).map fun e=>(e.2,0)) z→wpAny (model prog w) A (setNext a 0 i ep) Q E z:=by
  intro i A E z Q hg hq;unfold setNext;refine wpAny_bind (wpAny_setState_of hg hdt hft ?_);dsimp only;refine wpAny_bind (byText ?_);rw[ht,if_pos rfl];rw[if_neg (by simp)];refine wpAny_bind ?_;unfold setWalk;refine wpAny_bind (wpAny_setState_of hg hdt hft ?_);dsimp only;refine wpAny_bind (byText ?_);rw[ht,if_pos rfl];exact wpAny_bind (wpAny_askSetting (wpAny_pure (wpAny_pure hq)))
 refine⟨by rw[List.length_map,hl],rfl,fun i h A E z Q hg hq=>go i A E z Q hg ?_,fun A E z Q hg hq=>go es.size A E z Q hg ?_⟩
 ·have hi:i<(pickOrder (w.params.setOrder a ep) es).size:=by simpa using h
  rw[Array.getElem?_eq_getElem hi];simpa using hq
 ·rw[Array.getElem?_eq_none (by rw[←Array.length_toList];omega)]
  exact hq
theorem aad {xs:Array Nat}(hx:qH xs) (i:Nat) (hi:i≤xs.size) (slot:Nat) (h1:∀(k:Nat) (h:k<xs.size),k<i→xs[k]<slot) (h2:∀(h:i<xs.size),slot≤xs[i]):SetTable.below xs slot=i:=by
 obtain⟨b1,b2,b3⟩:=Qz hx slot;rcases Nat.lt_trichotomy (SetTable.below xs slot) i with c|c|c
 ·have:=b3 (SetTable.below xs slot) (by omega) (Nat.le_refl _)
  have:=h1 (SetTable.below xs slot) (by omega) c;omega
 ·exact c
 ·have:=b2 i (by omega) c
  have:=h2 (by omega);omega
def slotsOf (xs:Array Nat):Nat→Nat
 |0=>0
 |i+1=>xs.getD i 0+1
theorem af2 {a:Addr}{o:Obj}{es:Array (Int×Value)}{ep:Nat}{t:SetTable}(hdt:o.data= .set es ep t) (hft:t.fits es.size=true) (ht:w.params.followText "set-order"=false) (hT:TabOk w t) (hp:(!t.plain&&decide (es.size>1))=false):
  Nx prog w a o es.size ep (es.toList.map (·.2)) (slotsOf t.place):=by
 have hsz:t.place.size=es.size:=by
  simp only[SetTable.fits,Bool.and_eq_true,beq_iff_eq]at hft;exact hft.1
 have hb:∀i,i≤t.place.size→SetTable.below t.place (slotsOf t.place i)=i:=fun i hi=>by
  refine aad hT.1 i hi _ (fun k h hk=>?_) fun h=>?_
  ·cases i with
   |zero=>omega
   |succ i=>
    have e:t.place.getD i 0=t.place[i]:=by simp[Array.getD,show i<t.place.size by omega]
    show t.place[k]<t.place.getD i 0+1;rw[e];by_cases q:k=i
    ·subst q;omega
    ·have:=hT.1.lt (show k<i by omega) (by omega)
     omega
  ·cases i with
   |zero=>exact Nat.zero_le _
   |succ i=>
    have e:t.place.getD i 0=t.place[i]:=by simp[Array.getD,show i<t.place.size by omega]
    show t.place.getD i 0+1≤t.place[i+1];rw[e];exact hT.1.lt (Nat.lt_succ_self i) h
 have go:∀(i:Nat) (hi:i≤t.place.size) (A:Around) (E:Value→Shared→Prop) (z:Shared) (Q:Option (Value×Nat)→Shared→Prop),z.heap.get? a=some o→
   Q (match es[i]?,t.place[i]? with|some (_,x),some j=>some (x,j+1)|_,_=>none) z→wpAny (model prog w) A (setNext a (slotsOf t.place i) i ep) Q E z:=by
  intro i hi A E z Q hg hq;unfold setNext;refine wpAny_bind (wpAny_setState_of hg hdt hft ?_);dsimp only;refine wpAny_bind (byText ?_);rw[ht];rw[if_neg (by simp)];refine wpAny_ite_split (fun hab=>absurd ((show(!t.plain&&decide (es.size>1))=true from hab).symm.trans hp) (by simp)) fun _=>?_
  refine wpAny_bind ?_;show wpAny _ _ (if (!t.led&& !es.isEmpty)=true then _ else pure ()) _ _ _;rw[hT.2 ht];rw[if_neg (by simp)];refine wpAny_pure ?_;rw[hb i hi];exact wpAny_pure hq
 refine⟨by simp,rfl,fun i h A E z Q hg hq=>?_,fun A E z Q hg hq=>?_⟩
 ·have hi:i<es.size:=by simpa using h
  refine go i (by omega) A E z Q hg ?_;rw[Array.getElem?_eq_getElem hi,Array.getElem?_eq_getElem (show i<t.place.size by omega)];have e:t.place.getD i 0=t.place[i]:=by simp[Array.getD,show i<t.place.size by omega]
  have hq:Q (some ((es.toList.map (·.2))[i],t.place.getD i 0+1)) z:=hq;rw[e]at hq;simpa using hq
 ·refine go es.size (by omega) A E z Q hg ?_
  rw[Array.getElem?_eq_none (Nat.le_refl _)];exact hq
end
end Hs
end
section
set_option maxHeartbeats 3200000
namespace Hs
open PySem PySem.Spec PyProof.Rows L2 Hk
def Uv (f:Value) (i:Nat) (a:Addr) (n ep:Nat):Obj:={cls:= .type "set_iterator",data:= .fields #[f, .int i 0, .ref a, .int n 0, .int ep 0]}
section
variable {prog:Program}{w:World}{A:Around}{E:Value→Shared→Prop}{s:Shared}
theorem ae5 {α:Type}{Q:α→Shared→Prop}(hh:A.handled=none) (h:∀(e:Addr) (h':Heap) (o:Obj),h'.get? e=some o→o.cls= .type "StopIteration"→(∀b u,s.heap.get? b=some u→h'.get? b=some u)→E (.ref e) {s with heap:=h'}):
  wpAny (model prog w) A (newExc (.type "StopIteration") [] >>= fun e=>(raiseNew e:Sem α)) Q E s:=by
 simp only[newExc,newTuple];refine wpAny_bind (wpAny_bind (wpAny_newObj_type (wpAny_bind (m:=firstArgMember _ _) (wpAny_of_eq (a:=Value.none) (by first|rfl|(simp only[firstArgMember];rfl)) (wpAny_newObj_type ?_ (by size_fits)))) (by size_fits)));unfold raiseNew;refine wpAny_bind (wpAny_handled ?_);rw[hh];refine wpAny_bind (wpAny_pure (wpAny_throw (h _ _ _ (Heap.get?_push_size _ rfl) rfl fun b u q=>Heap.get?_push_of_some _ (Heap.get?_push_of_some _ q))))
theorem uD {I:Addr}{vs:Array Value}{k:Nat}{x:Value}{Q:Unit→Shared→Prop}(ho:s.heap.get? I=some {cls:= .type "set_iterator",data:= .fields vs}) (hk:k<vs.size)
  (h:∀h',h'.get? I=some {cls:= .type "set_iterator",data:= .fields (vs.setIfInBounds k x)}→(∀b o,b≠I→s.heap.get? b=some o→h'.get? b=some o)→Q () {s with heap:=h'}):wpAny (model prog w) A (setField (.ref I) k x) Q E s:=
 wpAny_setField_rec ho hk fun h' g sb=>h h' g fun b o hb e=>(sb.2 b hb).trans e
theorem ahv {I a:Addr}{o:Obj}{es:Array (Int×Value)}{n ep:Nat}{t:SetTable}{ord:List Value}{slots:Nat→Nat}(hh:A.handled=none) (hIa:I≠a) (hdt:o.data= .set es ep t) (hft:t.fits es.size=true) (hn:es.size=n) (N:Nx prog w a o n ep ord slots):
  Walks prog w A I [I,a] [I] n (fun i v=>ord[i]?=some v) (fun i h=>h.get? I=some (Uv (.int (slots i) 0) i a n ep)∧h.get? a=some o) where
 sub:=fun b hb=>by simp at hb;simp[hb]
 frame:=fun i h h' st k=>⟨k I (by simp) _ st.1,k a (by simp) _ st.2⟩
 self:=fun i z Q E' st hq=>by
  have hT:z.TypeIs (.ref I) "set_iterator":=⟨_,st.1,rfl⟩;refine wpAny_pyIter_slot hT Mf (wpAny_call_entry Mf hT aco ?_ (acp _));show wpAny _ _ (ret (.ref I)) _ _ z;exact wpAny_pure ⟨_,rfl,_,_,hT,j7.lookup,hq⟩
 item:=fun i z Q E' hi st hq=>by
  have hT:z.TypeIs (.ref I) "set_iterator":=⟨_,st.1,rfl⟩;have hi':i<ord.length:=by rw[N.len];exact hi
  unfold pyNext;refine wpAny_bind (wpAny_attempt (wpAny_callSpecial?_slot (name:=Str.ofString "__next__") hT j7 (wpAny_call_entry j7 hT LR ?_ (Ma _))));unfold Builtin.«set_iterator.__next__»;refine wpAny_bind (m:=slotArgs _ _ _) (wpAny_pure ?_);refine wpAny_bind (wpAny_fieldsOf st.1 rfl ?_);dsimp only;refine wpAny_bind (wpAny_setEntries_of st.2 hdt hft ?_);rw[if_neg (by rw[hn];simp)];show wpAny _ _ (setNext a (slots i:Int).toNat (i:Int).toNat (ep:Int).toNat >>= _) _ _ _;rw[Int.toNat_natCast,Int.toNat_natCast,Int.toNat_natCast];refine wpAny_bind (N.item i hi' _ _ _ _ st.2 ?_);dsimp only;refine wpAny_bind (uD st.1 (by simp) fun h1 g1 k1=>wpAny_bind (uD (s:={z with heap:=h1}) g1 (by simp) fun h2 g2 k2=>?_));refine wpAny_pure ⟨_,rfl,wpAny_pure (hq _ h2 z.toks (List.getElem?_eq_getElem hi') ⟨?_,k2 a o (Ne.symm hIa) (k1 a o (Ne.symm hIa) st.2)⟩ fun b u hb e=>k2 b u (by simpa using hb) (k1 b u (by simpa using hb) e))⟩;rw[g2];simp[Uv,rawInt]
 done:=fun z Q E' st hq=>by
  have hT:z.TypeIs (.ref I) "set_iterator":=⟨_,st.1,rfl⟩;unfold pyNext;refine wpAny_bind (wpAny_attempt (wpAny_callSpecial?_slot (name:=Str.ofString "__next__") hT j7 (wpAny_call_entry j7 hT LR ?_ (Ma _))));unfold Builtin.«set_iterator.__next__»;refine wpAny_bind (m:=slotArgs _ _ _) (wpAny_pure ?_);refine wpAny_bind (wpAny_fieldsOf st.1 rfl ?_);dsimp only;refine wpAny_bind (wpAny_setEntries_of st.2 hdt hft ?_);rw[if_neg (by rw[hn];simp)];show wpAny _ _ (setNext a (slots n:Int).toNat (n:Int).toNat (ep:Int).toNat >>= _) _ _ _;rw[Int.toNat_natCast,Int.toNat_natCast,Int.toNat_natCast];refine wpAny_bind (N.last _ _ _ _ st.2 ?_);dsimp only;refine wpAny_bind (uD st.1 (by simp) fun h1 g1 k1=>?_);refine ae5 (s:={z with heap:=h1}) hh fun e h2 o2 ge ce k2=>?_
  dsimp only;refine wpAny_bind (wpAny_isInstance (T:="StopIteration") (b:=true) ⟨o2,ge,ce⟩ isSubtype_stop (wpAny_pure (hq h2 z.toks fun b u hb e=>k2 b u (k1 b u (by simpa using hb) e))))
theorem ahw {I a T:Addr}{o:Obj}{es:Array (Int×Value)}{n ep:Nat}{t:SetTable}{order:List Nat}(hh:A.handled=none) (hIa:I≠a) (hIT:I≠T) (hdt:o.data= .set es ep t) (hft:t.fits es.size=true) (hn:es.size=n) (hp:order.Perm (List.range n)):
  Walks prog w A I [I,a,T] [I] n (fun i v=>(order.map fun j=>(es.getD j (0, .none)).2)[i]?=some v)
   (fun i h=>h.get? I=some (Uv (.ref T) i a n ep)∧h.get? a=some o∧h.get? T=some (seqObj "tuple" (order.map fun(j:Nat)=>rawInt j).toArray 0)) where
 sub:=fun b hb=>by simp at hb;simp[hb]
 frame:=fun i h h' st k=>⟨k I (by simp) _ st.1,k a (by simp) _ st.2.1,k T (by simp) _ st.2.2⟩
 self:=fun i z Q E' st hq=>by
  have hT:z.TypeIs (.ref I) "set_iterator":=⟨_,st.1,rfl⟩;refine wpAny_pyIter_slot hT Mf (wpAny_call_entry Mf hT aco ?_ (acp _));show wpAny _ _ (ret (.ref I)) _ _ z;exact wpAny_pure ⟨_,rfl,_,_,hT,j7.lookup,hq⟩
 item:=fun i z Q E' hi st hq=>by
  have hT:z.TypeIs (.ref I) "set_iterator":=⟨_,st.1,rfl⟩;have hi':i<order.length:=by rw[hp.length_eq,List.length_range];exact hi
  have hj:order[i]<es.size:=by
   have:=hp.mem_iff.mp (List.getElem_mem hi');rw[List.mem_range]at this;omega
  unfold pyNext;refine wpAny_bind (wpAny_attempt (wpAny_callSpecial?_slot (name:=Str.ofString "__next__") hT j7 (wpAny_call_entry j7 hT LR ?_ (Ma _))));unfold Builtin.«set_iterator.__next__»;refine wpAny_bind (m:=slotArgs _ _ _) (wpAny_pure ?_);refine wpAny_bind (wpAny_fieldsOf st.1 rfl ?_);dsimp only;refine wpAny_bind (wpAny_setEntries_of st.2.1 hdt hft ?_);rw[if_neg (by rw[hn];simp)];refine wpAny_bind (wpAny_seqItems st.2.2 rfl ?_);dsimp only;have e1:(order.map fun(j:Nat)=>rawInt j).toArray[(i:Int).toNat]?=some (rawInt (order[i]:Nat)):=by simp[hi']
  rw[e1];show wpAny _ _ (setNextDrawn a (order[i]:Int).toNat (ep:Int).toNat >>= _) _ _ _;rw[Int.toNat_natCast,Int.toNat_natCast];refine wpAny_bind ?_;unfold setNextDrawn;refine wpAny_bind (wpAny_setState_of st.2.1 hdt hft ?_);dsimp only;rw[if_neg (by simp),Array.getElem?_eq_getElem hj];refine wpAny_pure (wpAny_bind (uD st.1 (by simp) fun h1 g1 k1=>?_));refine wpAny_pure ⟨_,rfl,wpAny_pure (hq _ h1 z.toks ?_ ⟨?_,k1 a o (Ne.symm hIa) st.2.1,k1 T _ (Ne.symm hIT) st.2.2⟩ fun b u hb e=>k1 b u (by simpa using hb) e)⟩
  ·rw[List.getElem?_map,List.getElem?_eq_getElem hi']
   simp[Array.getD,hj]
  ·rw[g1]
   simp[Uv,rawInt]
 done:=fun z Q E' st hq=>by
  have hT:z.TypeIs (.ref I) "set_iterator":=⟨_,st.1,rfl⟩;unfold pyNext;refine wpAny_bind (wpAny_attempt (wpAny_callSpecial?_slot (name:=Str.ofString "__next__") hT j7 (wpAny_call_entry j7 hT LR ?_ (Ma _))));unfold Builtin.«set_iterator.__next__»;refine wpAny_bind (m:=slotArgs _ _ _) (wpAny_pure ?_);refine wpAny_bind (wpAny_fieldsOf st.1 rfl ?_);dsimp only;refine wpAny_bind (wpAny_setEntries_of st.2.1 hdt hft ?_);rw[if_neg (by rw[hn];simp)];refine wpAny_bind (wpAny_seqItems st.2.2 rfl ?_);dsimp only;have e1:(order.map fun(j:Nat)=>rawInt j).toArray[(n:Int).toNat]?=none:=by
   have:=hp.length_eq;rw[List.length_range]at this;simp;omega
  rw[e1];dsimp only;refine wpAny_bind (uD st.1 (by simp) fun h1 g1 k1=>wpAny_bind (uD (s:={z with heap:=h1}) g1 (by simp) fun h3 g3 k3=>?_));refine ae5 (s:={z with heap:=h3}) hh fun e h2 o2 ge ce k2=>?_
  dsimp only;refine wpAny_bind (wpAny_isInstance (T:="StopIteration") (b:=true) ⟨o2,ge,ce⟩ isSubtype_stop (wpAny_pure (hq h2 z.toks fun b u hb e=>k2 b u (k3 b u (by simpa using hb) (k1 b u (by simpa using hb) e)))))
theorem Y5 {ord:List Value}{n:Nat}{acc:Array Value}(hl:ord.length=n) (h:ItemsOf (fun i v=>ord[i]?=some v) acc n):acc.toList=ord:=by
 refine List.ext_getElem (by rw[Array.length_toList,h.1,hl]) fun j a b=>?_
 have hj:j<acc.size:=by simpa using a
 have:ord[j]?=some acc[j]:=h.2 j acc[j] (Array.getElem?_eq_getElem hj);rw[List.getElem?_eq_getElem b]at this;rw[Array.getElem_toList];exact(Option.some.inj this).symm
theorem aiQ {a:Addr}{o:Obj}{es:Array (Int×Value)}{ep:Nat}{t:SetTable}{Q:Value→Shared→Prop}(hh:A.handled=none) (hg:s.heap.get? a=some o) (hx:o.ExactSet) (hdt:o.data= .set es ep t) (hft:t.fits es.size=true) (hT:TabOk w t) (hz:es.size≤sizeLine)
  (h:∀(I:Addr) (fp:List Addr) (P:Nat→Value→Prop) (St:Nat→Heap→Prop) (h':Heap) (dr:Drawn),Walks prog w A I fp [I] es.size P St→St 0 h'→s.heap.objs.size≤I→(∀b∈fp,b=a∨s.heap.objs.size≤b)→(∀b u,s.heap.get? b=some u→h'.get? b=some u)→
   (∀acc,ItemsOf P acc es.size→acc.toList.Perm (es.toList.map (·.2)))→Q (.ref I) {s with heap:=h',drawn:=dr}):wpAny (model prog w) A (pyIter (.ref a)) Q E s:=by
 have hty:s.TypeIs (.ref a) "set":=⟨o,hg,hx.1⟩;have la:a<s.heap.objs.size:=Heap.lt_size hg;refine wpAny_pyIter_slot hty PySem.F.slot_set_iter (wpAny_call_entry PySem.F.slot_set_iter hty aht ?_ (PySem.F.args_set_iter_1 _));unfold Builtin.«frozenset.__iter__» Builtin.Frozenset.slot0;refine wpAny_bind (wpAny_bind (m:=slotArgs _ _ _) (wpAny_pure (wpAny_pure ?_)));unfold Builtin.Frozenset.sizeOf;refine wpAny_bind (wpAny_bind (wpAny_setEntries_of hg hdt hft (wpAny_pure ?_)));refine wpAny_bind ?_;unfold setDrawn;refine wpAny_bind (wpAny_setState_of hg hdt hft ?_);dsimp only;refine wpAny_bind (byText (wpAny_pure ?_));have fin:∀(ord:List Value) (slots:Nat→Nat),Nx prog w a o es.size ep ord slots→ord.Perm (es.toList.map (·.2))→Q (.ref s.heap.objs.size) {s with heap:=s.heap.push (Uv (.int 0 0) 0 a es.size ep)}:=fun ord slots N hp=>by
  refine h s.heap.objs.size [s.heap.objs.size,a] _ _ _ s.drawn (ahv hh (Nat.ne_of_gt la) hdt hft rfl N) ⟨?_,Heap.get?_push_of_some _ hg⟩ (Nat.le_refl _) (fun b hb=>?_) (fun b u q=>Heap.get?_push_of_some _ q) fun acc ha=>?_
  ·rw[N.zero]
   exact Heap.get?_push_size _ rfl
  ·simp only[List.mem_cons,List.not_mem_nil,or_false]at hb
   rcases hb with rfl|rfl
   ·exact .inr (Nat.le_refl _)
   ·exact .inl rfl
  ·rw[Y5 N.len ha]
   exact hp
 show wpAny _ _ (if (!w.params.followText "set-order"&&(!t.plain&&decide (es.size>1)))=true then _ else _) _ _ _;cases ajw:w.params.followText "set-order" with
 |true=>
  rw[if_neg (by simp)];refine wpAny_bind (wpAny_pure (wpAny_bind (wpAny_setEpoch_of hg hdt hft (wpAny_bind (wpAny_newObj_type (wpAny_pure ⟨_,rfl,"set_iterator",_,⟨_,Heap.get?_push_size _ rfl,rfl⟩,j7.lookup,?_⟩))))));exact fin _ _ (ahu hdt hft ajw) ((Ez _ es).map _)
 |false=>
  cases hp:(!t.plain&&decide (es.size>1))with
  |false=>
   rw[if_neg (by simp)];refine wpAny_bind (wpAny_pure (wpAny_bind (wpAny_setEpoch_of hg hdt hft (wpAny_bind (wpAny_newObj_type (wpAny_pure ⟨_,rfl,"set_iterator",_,⟨_,Heap.get?_push_size _ rfl,rfl⟩,j7.lookup,?_⟩))))));exact fin _ _ (af2 hdt hft ajw hT hp) .rfl
  |true=>
   rw[if_pos (by simp)];refine wpAny_bind (Uu _ _ _ (by simp) fun order dr hperm=>?_);have ho:order.length=es.size:=by rw[hperm.length_eq,List.length_range]
   refine wpAny_bind (wpAny_newTuple ?_ (by rw[List.length_map,ho];exact hz));have hg1:(s.heap.push (seqObj "tuple" (order.map fun(j:Nat)=>rawInt j).toArray 0)).get? a=some o:=Heap.get?_push_of_some _ hg;refine wpAny_bind (wpAny_setEpoch_of (s:={s with heap:=s.heap.push (seqObj "tuple" (order.map fun(j:Nat)=>rawInt j).toArray 0),drawn:=dr}) hg1 hdt hft (wpAny_bind (wpAny_newObj_type (wpAny_pure ⟨_,rfl,"set_iterator",_,⟨_,Heap.get?_push_size _ rfl,rfl⟩,j7.lookup,?_⟩))));have hsz:(s.heap.push (seqObj "tuple" (order.map fun(j:Nat)=>rawInt j).toArray 0)).objs.size=s.heap.objs.size+1:=size_push' ..;refine h (s.heap.push (seqObj "tuple" (order.map fun(j:Nat)=>rawInt j).toArray 0)).objs.size _ _ _ _ dr (ahw (T:=s.heap.objs.size) hh (by rw[hsz];exact Nat.ne_of_gt (Nat.lt_succ_of_lt la)) (by rw[hsz];exact Nat.ne_of_gt (Nat.lt_succ_self _)) hdt hft rfl hperm)
    ⟨Heap.get?_push_size _ rfl,Heap.get?_push_of_some _ hg1,Heap.get?_push_of_some _ (Heap.get?_push_size _ rfl)⟩ (by rw[hsz];exact Nat.le_succ _) (fun b hb=>?_) (fun b u q=>Heap.get?_push_of_some _ (Heap.get?_push_of_some _ q)) fun acc ha=>?_
   ·simp only[List.mem_cons,List.not_mem_nil,or_false]at hb
    rcases hb with rfl|rfl|rfl
    ·exact .inr (by rw[hsz];exact Nat.le_succ _)
    ·exact .inl rfl
    ·exact .inr (Nat.le_refl _)
   ·rw[Y5 (by rw[List.length_map,ho]) ha]
    refine(hperm.map _).trans (List.Perm.of_eq ?_);refine List.ext_getElem (by simp) fun j a b=>?_
    have hj:j<es.size:=by simpa using b
    simp[Array.getD,hj]
end
end Hs
end
section
set_option maxHeartbeats 3200000
namespace Hs
open PySem PySem.Spec PyProof.Rows L2 Hk
section
variable {prog:Program}{w:World}{A:Around}{E:Value→Shared→Prop}{s:Shared}
theorem aiR {r:Addr}{Q:Bool→Shared→Prop}(hT:s.TypeIs (.ref r) "set") (h:Q false s):wpAny (model prog w) A (Builtin.List.listLengthHint (.ref r)) Q E s:=by
 unfold Builtin.List.listLengthHint;refine wpAny_bind (wpAny_specialOf hT PySem.F.slot_set_len.lookup ?_);generalize hid:("set.__len__":String)=id0
 wp_delta
 rw[show splitId id0=some ("set","__len__")from by subst hid;decide+kernel];subst hid;refine wpAny_bind (wpAny_isInstance (T:="set") (b:=true) hT (by rw[isSubtype_type];kernel_rfl) ?_);refine wpAny_ite_split (fun q=>absurd q (by decide)) fun _=>wpAny_ite_split (fun _=>wpAny_bind (wpAny_typeOf hT (wpAny_pure h))) fun q=>absurd (by decide+kernel) q
theorem ajQ {R:Result→Shared→Prop}{a S:Addr}{o:Obj}{es:Array (Int×Value)}{ep c₀:Nat}{t:SetTable}{res:Value}(hh:A.handled=none) (hg:s.heap.get? a=some o) (hx:o.ExactSet) (hdt:o.data= .set es ep t) (hft:t.fits es.size=true) (hT:TabOk w t) (hz:es.size≤sizeLine) (hSa:S≠a)
  (hS:s.heap.get? S=some {cls:= .type "list",data:= .seq #[] c₀})
  (hR:∀(h':Heap) (tk:Nat) (dr:Drawn) (acc:Array Value) (c:Nat),(∀b u,b≠S→s.heap.get? b=some u→h'.get? b=some u)→h'.get? S=some {cls:= .type "list",dict:=none,data:= .seq acc c,slots:= #[]}→acc.toList.Perm (es.toList.map (·.2))→R (.ok (.ret res)) {s with heap:=h',drawn:=dr,toks:=tk}):
  wpAny (model prog w) A.in1 (Builtin.List.listExtendWith (.ref S) (.ref a) res) (fun fin z=>match fin with| .done f=>R (.ok f) z| .again c=>c.quiet=true∧codeAny (model prog w) A c R z) (fun e z=>R (.error e) z) s:=by
 have hty:s.TypeIs (.ref a) "set":=⟨o,hg,hx.1⟩;have lS:S<s.heap.objs.size:=Heap.lt_size hS;unfold Builtin.List.listExtendWith;refine wpAny_bind (wpAny_typeOf (T:="set") hty ?_);have e1:Builtin.List.listSameRef (.ref S) (.ref a)=false:=by simp[Builtin.List.listSameRef,hSa]
 have e2:(Value.type "set"==Value.type "list")=false:=by decide
 have e3:(Value.type "set"==Value.type "tuple")=false:=by decide
 simp only[e1,e2,e3,Bool.or_false,Bool.false_eq_true,if_false];refine wpAny_bind (aiQ (A:=A.in1) hh hg hx hdt hft hT hz fun I fp P St h1 dr W st lI hfp k1 hperm=>?_);have nf:S∉fp:=fun q=>by
  rcases hfp S q with e|e
  ·exact hSa e
  ·exact absurd e (Nat.not_le.mpr lS)
 have hg1:=k1 _ _ hg;have S1:=k1 _ _ hS;have key:∀(h2:Heap) (c₁:Nat),St 0 h2→(∀b u,b≠S→s.heap.get? b=some u→h2.get? b=some u)→h2.get? S=some {cls:= .type "list",data:= .seq #[] c₁}→
   codeAny (model prog w) A (.builtin "list.extend.loop" ⟨[.ref S, .ref I,res],[]⟩) R {s with heap:=h2,drawn:=dr}:=by
  intro h2 c₁ st2 k2 S2;refine codeAny_extend_loopS W.toS hz S nf res es.size 0 _ #[] c₁ rfl (Nat.zero_le _) st2 S2 (ItemsOf.nil _) fun z acc c hm hS' hacc=>?_
  rw[Moved.eq_with hm];refine hR z.heap z.toks dr acc c (fun b u hb e=>hm.heap b u (fun q=>?_) (k2 b u hb e)) hS' (hperm acc hacc);rcases List.mem_cons.mp q with q|q
  ·exact hb q
  ·rw[List.mem_singleton.mp q]at e
   exact absurd (Heap.lt_size e) (Nat.not_lt.mpr lI)
 refine wpAny_bind (wpAny_holding (aiR (s:={s with heap:=h1,drawn:=dr}) ⟨o,hg1,hx.1⟩ ?_));refine wpAny_ite_split (fun _=>wpAny_bind (wpAny_rule (wpAny_bind ?_))) fun _=>wpAny_pure ⟨plainId_quiet PySem.F.plain_extend_loop _,key h1 c₀ st (fun b u _ e=>k1 b u e) S1⟩
 show wpAny _ _ (updateSeq S (·.push .none) >>= fun _=>updateSeq S (·.pop)) _ _ _;refine wpAny_bind (wpAny_updateSeq (s:={s with heap:=h1,drawn:=dr}) S1 rfl ?_);have S2:=Heap.get?_update_self (Obj.mapSeq (·.push Value.none)) S1 rfl;refine wpAny_updateSeq (hz:=by seq_fits) (s:={s with heap:=h1.update S (Obj.mapSeq (·.push Value.none)),drawn:=dr}) S2 rfl ?_;have S3:=Heap.get?_update_self (Obj.mapSeq (·.pop)) S2 rfl;refine wpAny_pure ⟨plainId_quiet PySem.F.plain_extend_loop _,key _ _ (W.frame 0 _ _ st fun b hb u e=>?_) (fun b u hb e=>?_) S3⟩
 ·have hbS:S≠b:=fun q=>nf (q▸hb)
  rw[Heap.get?_update_other _ _ hbS,Heap.get?_update_other _ _ hbS];exact e
 ·rw[Heap.get?_update_other _ _ (Ne.symm hb),Heap.get?_update_other _ _ (Ne.symm hb)]
  exact k1 b u e
theorem aee {a:Addr}{o:Obj}{es:Array (Int×Value)}{ep:Nat}{t:SetTable}{R:List Value→Shared→Prop}(hh:A.handled=none) (hg:s.heap.get? a=some o) (hx:o.ExactSet) (hdt:o.data= .set es ep t) (hft:t.fits es.size=true) (hT:TabOk w t) (hz:es.size≤sizeLine)
  (h:∀(h':Heap) (tk:Nat) (dr:Drawn) (acc:List Value),(∀b u,s.heap.get? b=some u→h'.get? b=some u)→s.heap.objs.size≤h'.objs.size→acc.Perm (es.toList.map (·.2))→R acc {s with heap:=h',drawn:=dr,toks:=tk}):
  wpAny (model prog w) A (collect (.ref a)) R E s:=by
 have la:a<s.heap.objs.size:=Heap.lt_size hg;unfold collect;refine wpAny_bind (wpAny_runValue (codeAny_builtin entry_proto_collect' ?_));rw[Around.under_plainId PySem.F.plain_proto_collect _];show wpAny _ A.in1 (newList [] >>= fun l=>again (.builtin "list.__iadd__" ⟨[l, .ref a],[]⟩)) _ _ s;refine wpAny_bind (wpAny_newObj_type (wpAny_pure ⟨plainId_quiet PySem.F.plain_list_iadd _,codeAny_builtin entry_list_iadd' ?_⟩));rw[Around.under_plainId PySem.F.plain_list_iadd _];show wpAny _ A.in1 (Builtin.List.listExtendWith (.ref s.heap.objs.size) (.ref a) (.ref s.heap.objs.size)) _ _ _;refine wpAny_mono (ajQ (A:=A) (s:={s with heap:=s.heap.push {cls:= .type "list",data:= .seq ([]:List Value).toArray}})
  (R:=fun q z=>∃(h':Heap) (tk:Nat) (dr:Drawn) (acc:Array Value) (c:Nat),q= .ok (.ret (.ref s.heap.objs.size))∧z={s with heap:=h',drawn:=dr,toks:=tk}∧(∀b u,s.heap.get? b=some u→h'.get? b=some u)∧h'.get? s.heap.objs.size=some {cls:= .type "list",dict:=none,data:= .seq acc c,slots:= #[]}∧acc.toList.Perm (es.toList.map (·.2)))
  hh (Heap.get?_push_of_some _ hg) hx hdt hft hT hz (Nat.ne_of_gt la) (Heap.get?_push_size _ rfl) fun h' tk dr acc c k g p=>⟨h',tk,dr,acc,c,rfl,rfl,fun b u e=>k b u (Nat.ne_of_lt (Heap.lt_size e)) (Heap.get?_push_of_some _ e),g,p⟩) (fun fin z x=>?_) fun e z x=>?_
 ·have go:∀(q:Result) (z:Shared),(∃(h':Heap) (tk:Nat) (dr:Drawn) (acc:Array Value) (c:Nat),q= .ok (.ret (.ref s.heap.objs.size))∧z={s with heap:=h',drawn:=dr,toks:=tk}∧(∀b u,s.heap.get? b=some u→h'.get? b=some u)∧h'.get? s.heap.objs.size=some {cls:= .type "list",dict:=none,data:= .seq acc c,slots:= #[]}∧acc.toList.Perm (es.toList.map (·.2)))→
    q= .ok (.ret (.ref s.heap.objs.size))∧wpAny (model prog w) A (load s.heap.objs.size >>= fun o=>match o.data with| .seq xs _=>pure xs.toList|_=>unsupported "internal:collect") R E z:=by
   rintro q z ⟨h',tk,dr,acc,c,e,rfl,k,g,p⟩;exact⟨e,wpAny_bind (wpAny_load g (wpAny_pure (h h' tk dr acc.toList k (Nat.le_of_lt (Heap.lt_size g)) p)))⟩
  cases fin with
  |done f=>
   obtain⟨e,g⟩:=go _ _ x;cases e;exact g
  |again c=>
   refine⟨x.1,codeAny_mono x.2 fun q z2 y=>?_⟩;obtain⟨rfl,g⟩:=go _ _ y;exact g
 ·obtain⟨_,_,_,_,_,e',_⟩:=x
  cases e'
end
theorem Gu:∀{d l:List Int},d.Nodup→(∀k∈d,k∈l)→l.length≤d.length→d.Perm l
 |[],l,_,_,h=>by
  have:l=[]:=List.length_eq_zero_iff.mp (by simpa using h);subst this;exact .rfl
 |x::d,l,nd,sub,h=>by
  obtain⟨nx,nd'⟩:=List.nodup_cons.mp nd;have hx:x∈l:=sub x (List.mem_cons_self ..);have ih:d.Perm (l.erase x):=Gu nd' (fun k hk=>(List.mem_erase_of_ne (fun(e:k=x)=>nx (by rw[←e];exact hk))).mpr (sub k (List.mem_cons_of_mem _ hk))) (by
   rw[List.length_erase_of_mem hx];simp only[List.length_cons]at h;omega)
  exact(ih.cons x).trans (List.perm_cons_erase hx).symm
theorem intsAre_map:∀{us:List Value},(∀u∈us,∃k t,u=Value.int k t)→PyProof.Rows.IntsAre us (us.map numOf)
 |[],_=> .nil
 |u::us,h=>by
  obtain⟨k,t,rfl⟩:=h u (List.mem_cons_self ..);exact .cons k t (intsAre_map fun v hv=>h v (List.mem_cons_of_mem _ hv))
def ahx (P:Program) (w:World):List V→Hp→VK→Prop:=fun vs H Q=>∃(a:Addr) (d:List Int),vs=[V.ref a]∧H a=some (Us P w a d)∧Q (.int d.length) H
def acq (P:Program) (w:World):List V→Hp→VK→Prop:=fun vs H Q=>∃(a:Addr) (d:List Int),vs=[V.ref a]∧H a=some (Us P w a d)∧d.Nodup∧d.length<64∧
 ∀(ns':List Int) (p:Addr),ns'.Perm d→ns'.Pairwise (·≤·)→H p=none→Q (.ref p) (upd H p (.lst (ns'.map V.int)))
theorem aae {X:Cx}:rW X (.builtin "len") (ahx X.prog X.w):=by
 intro pins s σ H vs us Q I r h;obtain⟨a,d,rfl,hd,q⟩:=h;rw[Vals.IK r];obtain⟨⟨o,es,ep,t,g,hx,hdt,_,_,hb,hft,hn,_⟩,_⟩:=I.hok a _ hd;have hb':es.size<4096:=hb;refine call_len_set g hx hdt hft (by omega) ⟨.int d.length,H,I.tok _,⟨s.toks+1,?_⟩,q⟩;rw[hn]
theorem WD {X:Cx}(hc:X.calm=true):rW X (.builtin "sorted") (acq X.prog X.w):=by
 intro pins s σ H vs us Q I r h;obtain⟨a,d,rfl,hd,nd,h64,q⟩:=h;rw[Vals.IK r];obtain⟨⟨o,es,ep,t,g,hx,hdt,hel,hmem,hb,hft,hn,hT⟩,_⟩:=I.hok a _ hd;refine Calls.call_function_entry kind_sorted plain_sorted entry_sorted (args_sorted1 _) ?_;unfold Builtin.«sorted»;refine wpAny_bind (m:=checkCount "sorted" 1 1 _) (wpAny_pure ?_);refine wpAny_bind (aee (A:=X.A.in1) (I.ok.hd hc) g hx hdt hft hT (by rw[hn,sizeLine_eq];omega) fun h' tk dr acc k hgt hp=>?_);have I1:Inv X pins σ H {s with drawn:=dr}:=⟨I.ok,I.os,I.bare,I.base,I.loc,I.cell,I.free,I.rT,I.pin,I.hok,I.len⟩;have hint:∀u∈es.toList.map (·.2),∃k t,u=Value.int k t∧k∈d:=fun u hu=>by
  obtain⟨e,he,rfl⟩:=List.mem_map.mp hu;obtain⟨⟨k,hk,_⟩,_⟩:=hel e he;obtain⟨t,et⟩:=Value.isInt_shape hk;exact⟨k,t,et,of_decide_eq_true ((hmem k).mpr ⟨e,he,hk⟩)⟩
 have hi:PyProof.Rows.IntsAre acc (acc.map numOf):=intsAre_map fun u hu=>by
  obtain⟨k,t,e,_⟩:=hint u (hp.mem_iff.mp hu);exact⟨k,t,e⟩
 have hl:acc.length=d.length:=by rw[hp.length_eq,List.length_map,Array.length_toList,hn]
 have hpd:d.Perm (acc.map numOf):=Gu nd (fun k hk=>?_) (by rw[List.length_map,hl];exact Nat.le_refl _)
 ·exact wpAny_mono (YS I1 k hgt hi (by rw[List.length_map,hl];exact h64) (fun ns' p h1 h2 h3=>q ns' p (h1.trans hpd.symm) h2 h3) (fun _ _ z=>z)) (fun f s' ⟨v,e,z⟩=>by subst e;exact⟨v,rfl,z⟩) fun _ _ z=>z
 ·obtain⟨e,he,hk'⟩:=(hmem k).mp (decide_eq_true hk)
  obtain⟨t,et⟩:=Value.isInt_shape hk';refine List.mem_map.mpr ⟨e.2,hp.mem_iff.mpr (List.mem_map_of_mem he),?_⟩;rw[et];rfl
end Hs
end
section
namespace Kq
open PySem PySem.Spec PyProof.Rows L2 Hk
structure Def (K:PySem.W.Frag) (mg:Str→Option Value) (x:Str) (st:Stmt) (f:Addr) (fd:FuncData):Prop where
 fn:K9 K x x st f fd
 mg:mg x=some (.ref f)
structure Kls (K:PySem.W.Frag) (mg:Str→Option Value) (x:Str) (C f:Addr):Prop where
 cl:Cls K C
 mkr:Mk K C f
 mg:mg x=some (.ref C)
local macro_rules|`(tactic|w_up)=>`(tactic|exact⟨rfl,rfl,rfl,by decide+kernel,rfl,by decide+kernel,by decide+kernel⟩)
def top (i:Nat):Stmt:=PySem.Challenge.pw_keyhousedesk_s01_answers.main.body.getD i (.Pass ⟨0,0,0,0⟩)
abbrev CT:Stmt:=inClass (top 6) 0
theorem WK:aR ["self","chambers","depths","step","pin","kinds","run"] ["self","chambers","depths","step","pin","kinds","run"] (aF CT):=by w_up
abbrev Gv:Stmt:=inClass (top 7) 0
theorem aaf:aR ["self","grooves","cuts"] ["self","grooves","cuts"] (aF Gv):=by w_up
abbrev uE:Stmt:=inClass (top 8) 0
theorem Mg:aR ["self","wards","depth_sets"] ["self","wards","depth_sets"] (aF uE):=by w_up
abbrev Ol:Stmt:=top 9
theorem aef:aR ["number","least","greatest"] ["number","least","greatest"] (aF Ol):=by w_up
abbrev JG:Stmt:=top 10
theorem acr:aR ["make"] ["make"] (aF JG):=by w_up
abbrev JH:Stmt:=top 11
theorem acs:aR ["bits","place"] ["bits","place"] (aF JH):=by w_up
abbrev wM:Stmt:=top 12
theorem zX:aR ["depth_set","depths","depth"] ["depth_set","depths"] (aF wM):=by w_up
abbrev qI:Stmt:=top 13
theorem uF:aR ["rising","pin","lower","higher"] ["rising","pin"] (aF qI):=by w_up
abbrev vV:Stmt:=top 14
theorem Bk:aR ["make","depth_set","rising"] ["make","depth_set"] (aF vV):=by w_up
abbrev HJ:Stmt:=top 15
theorem JK:aR ["make","key","cut"] ["make","key"] (aF HJ):=by w_up
abbrev sI:Stmt:=top 16
theorem vW:aR ["make","cylinder","depth_set"] ["make","cylinder"] (aF sI):=by w_up
abbrev Mh:Stmt:=top 17
theorem Om:aR ["key","cylinder","cut","depth_set"] ["key","cylinder"] (aF Mh):=by w_up
abbrev zY:Stmt:=inClass (top 32) 0
theorem Uw:aR ["self","make","rooms"] ["self","make","rooms"] (aF zY):=by w_up
abbrev CV:Stmt:=inClass (top 33) 0
theorem WL:aR ["self"] ["self"] (aF CV):=by w_up
abbrev yj:Stmt:=top 34
theorem QW:aR ["desk","make","rooms"] ["desk","make","rooms"] (aF yj):=by w_up
abbrev JL:Stmt:=top 35
theorem acu:aR ["house","key"] ["house","key"] (aF JL):=by w_up
abbrev vX:Stmt:=top 36
theorem Oo:aR ["house","cylinder"] ["house","cylinder"] (aF vX):=by w_up
abbrev zZ:Stmt:=top 37
theorem yp:aR ["side","what","which"] ["side"] (aF zZ):=by w_up
abbrev JM:Stmt:=top 38
theorem acv:aR ["house","room"] ["house","room"] (aF JM):=by w_up
abbrev yq:Stmt:=top 39
theorem QX:aR ["house","key"] ["house","key"] (aF yq):=by w_up
abbrev JN:Stmt:=top 40
theorem acw:aR ["house","number"] ["house","number"] (aF JN):=by w_up
abbrev sJ:Stmt:=top 41
theorem JQ:aR ["house","side"] ["house","side"] (aF sJ):=by w_up
abbrev Gw:Stmt:=top 42
theorem aag:aR ["house","ends","first","second"] ["house","ends","first","second"] (aF Gw):=by w_up
abbrev Gx:Stmt:=top 43
theorem aah:aR ["house","number","side"] ["house","number","side"] (aF Gx):=by w_up
abbrev Gy:Stmt:=top 44
theorem aai:aR ["house","key","room"] ["house","key","room"] (aF Gy):=by w_up
abbrev z6:Stmt:=top 45
theorem Ux:aR ["house","key"] ["house","key"] (aF z6):=by w_up
abbrev CW:Stmt:=top 46
theorem WM:aR ["house"] ["house"] (aF CW):=by w_up
abbrev nA:Stmt:=top 47
theorem rC:aR ["house","cylinder","number","key"] ["house","cylinder"] (aF nA):=by w_up
abbrev vY:Stmt:=top 48
theorem uG:aR ["house","number","side","turning"] ["house","number"] (aF vY):=by w_up
abbrev CZ:Stmt:=inClass (top 68) 0
theorem WQ:aR ["self","number","wholes","row","behind"] ["self","number","wholes","row","behind"] (aF CZ):=by w_up
abbrev Dc:Stmt:=top 69
theorem qd:aR ["numbers","place","number","wholes_end","wholes","row_end"] ["numbers","place"] (aF Dc):=by w_up
abbrev z7:Stmt:=top 70
theorem oF:aR ["numbers","read","place","call"] ["numbers"] (aF z7):=by w_up
abbrev vZ:Stmt:=inClass (top 72) 0
theorem Oq:aR ["self","side","behind","is_free","turners"] ["self","side","behind","is_free","turners"] (aF vZ):=by w_up
abbrev Dd:Stmt:=top 73
theorem Gz:aR ["numbers","number"] ["numbers"] (aF Dd):=by w_up
abbrev z8:Stmt:=top 74
theorem sO:aR ["house","turners","number","side","ends","behind"] ["house","turners","number"] (aF z8):=by w_up
abbrev iJ:Stmt:=top 75
theorem dM:aR ["house","turners","cylinder","by_room","room","number","ends"] ["house"] (aF iJ):=by w_up
abbrev Ot:Stmt:=top 76
theorem aeg:aR ["bunch","passage"] ["bunch","passage"] (aF Ot):=by w_up
abbrev qJ:Stmt:=top 77
theorem j8:aR ["by_room","side","left","passages","passage"] ["by_room","side"] (aF qJ):=by w_up
abbrev yr:Stmt:=top 78
theorem iy:aR ["by_room","bunch","start","walks","waiting","place","here","passage"] ["by_room","bunch","start"] (aF yr):=by w_up
abbrev Df:Stmt:=top 79
theorem WR:aR ["by_room","bunch","start","goal"] ["by_room","bunch","start","goal"] (aF Df):=by w_up
abbrev wg:Stmt:=top 80
theorem Ou:aR ["by_room","bunch","start"] ["by_room","bunch","start"] (aF wg):=by w_up
abbrev jK:Stmt:=top 81
theorem nq:aR ["by_room","bunch","goal","room"] ["by_room","bunch","goal"] (aF jK):=by w_up
abbrev iR:Stmt:=top 82
theorem gQ:aR ["by_room","bunch","start","goal","walk","side"] ["by_room","bunch","start","goal"] (aF iR):=by w_up
abbrev uH:Stmt:=top 83
theorem sS:aR ["by_room","bunch","room","traps","passage"] ["by_room","bunch","room"] (aF uH):=by w_up
abbrev z9:Stmt:=top 84
theorem yt:aR ["by_room","bunch","start","traps","room"] ["by_room","bunch","start"] (aF z9):=by w_up
abbrev eZ:Stmt:=top 85
theorem bZ:aR ["by_room","bunch","reached","room","least","other"] ["by_room","bunch"] (aF eZ):=by w_up
abbrev Dg:Stmt:=top 87
theorem GC:aR ["bunch","key"] ["bunch"] (aF Dg):=by w_up
abbrev sU:Stmt:=top 88
theorem yu:aR ["bunch","chosen"] ["bunch"] (aF sU):=by w_up
abbrev jY:Stmt:=top 89
theorem oG:aR ["bunch","parts","part"] ["bunch"] (aF jY):=by w_up
abbrev sV:Stmt:=top 90
theorem JR:aR ["by_room","bunch","start","goal","with_back"] ["by_room","bunch","start","goal","with_back"] (aF sV):=by w_up
abbrev sW:Stmt:=top 91
theorem yw:aR ["by_room","bunch","start","goal","with_back","part"] ["by_room","bunch","start","goal","with_back"] (aF sW):=by w_up
abbrev sX:Stmt:=top 92
theorem wj:aR ["by_room","bunch","start","goal","key"] ["by_room","bunch","start","goal"] (aF sX):=by w_up
abbrev qK:Stmt:=top 94
theorem pA:aR ["house","hung","room","key"] ["house"] (aF qK):=by w_up
abbrev yx:Stmt:=top 95
theorem fP:aR ["by_room","hung","bunch","start","first","seen","waiting","state","having","passage","behind"] ["by_room","hung","bunch","start"] (aF yx):=by w_up
abbrev lV:Stmt:=top 96
theorem pX:aR ["states","state"] ["states"] (aF lV):=by w_up
abbrev sY:Stmt:=top 97
theorem lW:aR ["states","together","state"] ["states"] (aF sY):=by w_up
abbrev uY:Stmt:=top 99
theorem yC:aR ["house","bunch","rooms","room"] ["house","bunch","rooms"] (aF uY):=by w_up
abbrev JT:Stmt:=top 100
theorem acy:aR ["numbers"] ["numbers"] (aF JT):=by w_up
abbrev Dh:Stmt:=top 101
theorem WT:aR ["house","bunch","start"] ["house","bunch","start"] (aF Dh):=by w_up
abbrev Di:Stmt:=top 102
theorem Jg:aR ["house","bunch","start","states"] ["house","bunch","start"] (aF Di):=by w_up
abbrev JV:Stmt:=top 103
theorem QB:aR ["house","bunch","start","goal","walk"] ["house","bunch","start","goal"] (aF JV):=by w_up
abbrev Dj:Stmt:=top 104
theorem Jh:aR ["house","bunch","start","goal","back","smallest"] ["house","bunch","start","goal","back"] (aF Dj):=by w_up
abbrev Aa:Stmt:=top 105
theorem GD:aR ["house","bunch","start","goal","by_room"] ["house","bunch","start","goal"] (aF Aa):=by w_up
abbrev yD:Stmt:=top 106
theorem EY:aR ["house","bunch","start","goal","by_room"] ["house","bunch","start","goal"] (aF yD):=by w_up
abbrev Dk:Stmt:=top 107
theorem WW:aR ["house","bunch","start"] ["house","bunch","start"] (aF Dk):=by w_up
abbrev GF:Stmt:=top 108
theorem aaj:aR ["house","bunch","goal"] ["house","bunch","goal"] (aF GF):=by w_up
abbrev Dl:Stmt:=top 109
theorem Ji:aR ["house","bunch","least"] ["house","bunch"] (aF Dl):=by w_up
abbrev wk:Stmt:=top 111
theorem Bl:aR ["desk","wholes","make"] ["desk","wholes"] (aF wk):=by w_up
abbrev yE:Stmt:=top 112
theorem qL:aR ["house","wholes","ends","first","second"] ["house","wholes"] (aF yE):=by w_up
abbrev sZ:Stmt:=top 113
theorem yF:aR ["house","call","wholes"] ["house","call"] (aF sZ):=by w_up
abbrev rD:Stmt:=top 114
theorem pY:aR ["house","call","wholes","bunch"] ["house","call"] (aF rD):=by w_up
abbrev uI:Stmt:=top 115
theorem zq:aR ["house","call","refusal"] ["house","call"] (aF uI):=by w_up
abbrev yG:Stmt:=top 116
theorem QZ:aR ["desk","call"] ["desk","call"] (aF yG):=by w_up
abbrev JW:Stmt:=top 117
theorem vA:aR ["calls","desk","given","call","answer"] ["calls"] (aF JW):=by w_up
abbrev Mi (x0 x1 x2 x3 x4 x5:V):List (Str×V):=[("chambers",x0),("depths",x1),("step",x2),("pin",x3),("kinds",x4),("run",x5)]
abbrev aak (x0 x1:V):List (Str×V):=[("grooves",x0),("cuts",x1)]
abbrev Dm (x0 x1:V):List (Str×V):=[("wards",x0),("depth_sets",x1)]
abbrev Ov (x0 x1 x2 x3 x4 x5 x6:V):List (Str×V):=[("make",x0),("rooms",x1),("told_keys",x2),("cylinders",x3),("doors",x4),("sides",x5),("hanging",x6)]
abbrev jL (x0:V):List (Str×V):=[("house",x0)]
abbrev Mj (x0 x1 x2 x3:V):List (Str×V):=[("number",x0),("wholes",x1),("row",x2),("behind",x3)]
abbrev zu (x0 x1 x2 x3:V):List (Str×V):=[("side",x0),("behind",x1),("is_free",x2),("turners",x3)]
theorem Ml:bootBuiltins "all"=some (.builtin "all"):=by decide+kernel
theorem ah6:bootBuiltins "enumerate"=some (.type "enumerate"):=by decide+kernel
theorem dG:bootBuiltins "len"=some (.builtin "len"):=by decide+kernel
theorem ahy:bootBuiltins "list"=some (.type "list"):=by decide+kernel
theorem ae6:bootBuiltins "min"=some (.builtin "min"):=by decide+kernel
theorem aj0:bootBuiltins "range"=some (.type "range"):=by decide+kernel
theorem ae7:bootBuiltins "set"=some (.type "set"):=by decide+kernel
theorem yH:bootBuiltins "sorted"=some (.builtin "sorted"):=by decide+kernel
theorem aiS:bootBuiltins "sum"=some (.builtin "sum"):=by decide+kernel
theorem aku:bootBuiltins "zip"=some (.type "zip"):=by decide+kernel
set_option genInjectivity false in
set_option genSizeOf false in
structure Ad where
 tu:Addr
 qe:FuncData
 vB:Addr
 tD:FuncData
 j9:Addr
 jM:FuncData
 HN:Addr
 yI:FuncData
 Dn:Addr
 vC:FuncData
 Dp:Addr
 vD:FuncData
 wN:Addr
 qg:FuncData
 qM:Addr
 kh:FuncData
 qN:Addr
 kj:FuncData
 HS:Addr
 yJ:FuncData
 tE:Addr
 mG:FuncData
 Mp:Addr
 Bm:FuncData
 qj:Addr
 oH:FuncData
 tG:Addr
 qm:FuncData
 tH:Addr
 mH:FuncData
 Dq:Addr
 vG:FuncData
 qO:Addr
 kE:FuncData
 uZ:Addr
 oJ:FuncData
 Ds:Addr
 vH:FuncData
 tK:Addr
 mJ:FuncData
 Dt:Addr
 vI:FuncData
 nF:Addr
 jj:FuncData
 zx:Addr
 tL:FuncData
 zy:Addr
 tM:FuncData
 zA:Addr
 tO:FuncData
 u0:Addr
 oK:FuncData
 wO:Addr
 qp:FuncData
 nH:Addr
 jk:FuncData
 qP:Addr
 kI:FuncData
 tQ:Addr
 qt:FuncData
 wQ:Addr
 qu:FuncData
 u5:Addr
 oM:FuncData
 mK:Addr
 kJ:FuncData
 Du:Addr
 vJ:FuncData
 u6:Addr
 oN:FuncData
 jZ:Addr
 gG:FuncData
 HW:Addr
 yK:FuncData
 qQ:Addr
 kO:FuncData
 tR:Addr
 mL:FuncData
 wU:Addr
 qw:FuncData
 qR:Addr
 kW:FuncData
 jN:Addr
 fU:FuncData
 iT:Addr
 fj:FuncData
 pB:Addr
 jO:FuncData
 u9:Addr
 oO:FuncData
 gR:Addr
 eV:FuncData
 Dv:Addr
 vK:FuncData
 nJ:Addr
 jl:FuncData
 j4:Addr
 gH:FuncData
 nM:Addr
 jm:FuncData
 nO:Addr
 jo:FuncData
 tU:Addr
 mO:FuncData
 qT:Addr
 kY:FuncData
 tV:Addr
 mQ:FuncData
 lX:Addr
 iK:FuncData
 nP:Addr
 jq:FuncData
 vd:Addr
 oR:FuncData
 Dy:Addr
 vL:FuncData
 wV:Addr
 qx:FuncData
 wW:Addr
 qy:FuncData
 Dz:Addr
 vM:FuncData
 wX:Addr
 qz:FuncData
 vf:Addr
 oU:FuncData
 tW:Addr
 mR:FuncData
 wY:Addr
 qC:FuncData
 zB:Addr
 tX:FuncData
 wZ:Addr
 qD:FuncData
 qU:Addr
 kZ:FuncData
 tY:Addr
 mU:FuncData
 nQ:Addr
 jr:FuncData
 lY:Addr
 iM:FuncData
 pC:Addr
 jP:FuncData
 tZ:Addr
 mV:FuncData
 rE:Addr
 rM:FuncData
 lZ:Addr
 DG:Addr
 jQ:Addr
 cR:Addr
 gw:Addr
 qW:Addr
 iB:Addr
 uJ:Tok
 wu:Tok
 yL:Tok
 mj:Tok
 yM:Tok
 JX:Tok
 aal:Tok
 Ow:Tok
 DK:Tok
 GJ:Tok
 aam:Tok
 Ox:Tok
 aan:Tok
 Ab:Tok
 DN:Tok
 uc:Tok
 Ac:Tok
 wz:Tok
 DP:Tok
 GK:Tok
 uK:Tok
 DQ:Tok
 GP:Tok
 DR:Tok
 yN:Tok
 yO:Tok
 Ae:Tok
 Af:Tok
 Ag:Tok
 GQ:Tok
 Ah:Tok
 yP:Tok
 wB:Tok
 Ai:Tok
 DW:Tok
 Bo:Addr
structure Txt (K:PySem.W.Frag) (mg:Str→Option Value) (A:Ad):Prop where
 xg:K9 K "__init__" "Make.__init__" CT A.tu A.qe
 zE:K9 K "__init__" "Key.__init__" Gv A.vB A.tD
 pD:K9 K "__init__" "Cylinder.__init__" uE A.j9 A.jM
 eO:Def K mg "within" Ol A.HN A.yI
 uL:Def K mg "is_make" JG A.Dn A.vC
 jW:Def K mg "has_bit" JH A.Dp A.vD
 pF:Def K mg "depths_in" wM A.wN A.qg
 jA:Def K mg "is_pin_apart" qI A.qM A.kh
 jB:Def K mg "is_depth_set" vV A.qN A.kj
 xM:Def K mg "is_key" HJ A.HS A.yJ
 lq:Def K mg "is_cylinder" sI A.tE A.mG
 Bp:Def K mg "turns" Mh A.Mp A.Bm
 vg:K9 K "__init__" "House.__init__" zY A.qj A.oH
 xq:K9 K "__init__" "Desk.__init__" CV A.tG A.qm
 lu:Def K mg "start_house" yj A.tH A.mH
 uM:Def K mg "add_key" JL A.Dq A.vG
 jC:Def K mg "add_cylinder" vX A.qO A.kE
 fG:Def K mg "tells_side" zZ A.uZ A.oJ
 iC:Def K mg "is_room" JM A.Ds A.vH
 gJ:Def K mg "is_told_key" yq A.tK A.mJ
 oV:Def K mg "is_side" JN A.Dt A.vI
 cZ:Def K mg "lacks_cylinder" sJ A.nF A.jj
 rN:Def K mg "add_door" Gw A.zx A.tL
 rO:Def K mg "fit_side" Gx A.zy A.tM
 rP:Def K mg "hang_key" Gy A.zA A.tO
 mX:Def K mg "unhang_key" z6 A.u0 A.oK
 pG:Def K mg "count_all" CW A.wO A.qp
 eN:Def K mg "keys_that_turn" nA A.nH A.jk
 jD:Def K mg "keys_of_side" vY A.qP A.kI
 xu:K9 K "__init__" "Call.__init__" CZ A.tQ A.qt
 pH:Def K mg "read_call" Dc A.wQ A.qu
 mY:Def K mg "read_calls" z7 A.u5 A.oM
 qX:K9 K "__init__" "Passage.__init__" vZ A.mK A.kJ
 uN:Def K mg "bits_of" Dd A.Du A.vJ
 mZ:Def K mg "passage_of" z8 A.u6 A.oN
 aX:Def K mg "passages_by_room" iJ A.jZ A.gG
 m6:Def K mg "passes" Ot A.HW A.yK
 jE:Def K mg "without_side" qJ A.qQ A.kO
 bY:Def K mg "first_walks" yr A.tR A.mL
 bW:Def K mg "does_lead" Df A.wU A.qw
 jF:Def K mg "rooms_led_to" wg A.qR A.kW
 fu:Def K mg "rooms_not_leading" jK A.jN A.fU
 d7:Def K mg "sides_of_every_walk" iR A.iT A.fj
 je:Def K mg "traps_in_room" uH A.pB A.jO
 m7:Def K mg "traps_from" z9 A.u9 A.oO
 dI:Def K mg "least_rooms_of_parts" eZ A.gR A.eV
 iD:Def K mg "keys_in" Dg A.Dv A.vK
 gU:Def K mg "place_in_order" sU A.nJ A.jl
 fO:Def K mg "bunches_in_order" jY A.j4 A.gH
 gW:Def K mg "leads_as_asked" sV A.nM A.jm
 gY:Def K mg "smallest_bunch" sW A.nO A.jo
 lA:Def K mg "needed_keys" sX A.tU A.mO
 jG:Def K mg "hung_by_room" qK A.qT A.kY
 lB:Def K mg "states_from" yx A.tV A.mQ
 fZ:Def K mg "rooms_of_states" lV A.lX A.iK
 gZ:Def K mg "keys_of_states" sY A.nP A.jq
 m8:Def K mg "refusal_of" uY A.vd A.oR
 cW:Def K mg "counted" JT A.Dy A.vL
 pI:Def K mg "ask_leads" Dh A.wV A.qx
 pJ:Def K mg "ask_found" Di A.wW A.qy
 uO:Def K mg "ask_way" JV A.Dz A.vM
 pK:Def K mg "ask_small" Dj A.wX A.qz
 m9:Def K mg "ask_needed" Aa A.vf A.oU
 lE:Def K mg "ask_through" yD A.tW A.mR
 pL:Def K mg "ask_traps" Dk A.wY A.qC
 rQ:Def K mg "ask_shut" GF A.zB A.tX
 pN:Def K mg "ask_parts" Dl A.wZ A.qD
 jH:Def K mg "answer_start" wk A.qU A.kZ
 lF:Def K mg "answer_door" yE A.tY A.mU
 g8:Def K mg "answer_telling" sZ A.nQ A.jr
 gh:Def K mg "answer_question" rD A.lY A.iM
 jf:Def K mg "answer_asking" uI A.pC A.jP
 lH:Def K mg "answer_call" yG A.tZ A.mV
 uP:Def K mg "answers" JW A.rE A.rM
 xG:Kls K mg "Make" A.lZ A.tu
 jg:cI K A.lZ "chambers"
 gK:cI K A.lZ "depths"
 Mq:cI K A.lZ "step"
 GR:cI K A.lZ "pin"
 Jj:cI K A.lZ "kinds"
 QC:cI K A.lZ "run"
 JZ:Kls K mg "Key" A.DG A.vB
 yQ:cI K A.DG "grooves"
 zF:cI K A.DG "cuts"
 oW:Kls K mg "Cylinder" A.jQ A.j9
 nR:cI K A.jQ "wards"
 iU:cI K A.jQ "depth_sets"
 d9:Kls K mg "House" A.cR A.qj
 Aj:cI K A.cR "make"
 oX:cI K A.cR "rooms"
 dN:cI K A.cR "told_keys"
 dO:cI K A.cR "cylinders"
 jt:cI K A.cR "doors"
 gM:cI K A.cR "sides"
 gj:cI K A.cR "hanging"
 DX:Kls K mg "Desk" A.gw A.tG
 ni:cI K A.gw "house"
 qY:Kls K mg "Call" A.qW A.tQ
 bN:cI K A.qW "number"
 ju:cI K A.qW "wholes"
 GX:cI K A.qW "row"
 GZ:cI K A.qW "behind"
 iG:Kls K mg "Passage" A.iB A.mK
 qZ:cI K A.iB "side"
 fJ:cI K A.iB "behind"
 yR:cI K A.iB "is_free"
 yS:cI K A.iB "turners"
 Oz:mg "CHAMBERS_MOST"=some (.int 7 A.uJ)
 Q0:mg "DEPTHS_LEAST"=some (.int 2 A.wu)
 Uy:mg "DEPTHS_MOST"=some (.int 10 A.yL)
 DY:mg "CHAMBER_DEPTHS_MOST"=some (.int 6 A.mj)
 G3:mg "LETTER_SETS"=some (.int 67108864 A.yM)
 rF:mg "NO_FORM"=some (.int (-1) A.JX)
 Sd:mg "FULL"=some (.int (-2) A.aal)
 Bq:mg "NOT_SO"=some (.int (-3) A.Ow)
 mC:mg "NOT_THERE"=some (.int (-4) A.DK)
 acz:mg "NO_HOUSE"=some (.int (-5) A.GJ)
 ae8:mg "FREE"=some (.int 0 A.aam)
 HX:mg "LOCKED"=some (.int 1 A.Ox)
 aiT:mg "SHUT"=some (.int 2 A.aan)
 WX:mg "ROOMS_MOST"=some (.int 24 A.Ab)
 Mr:mg "KEYS_MOST"=some (.int 8 A.DN)
 Ms:mg "CYLINDERS_MOST"=some (.int 16 A.uc)
 WY:mg "DOORS_MOST"=some (.int 24 A.Ac)
 Q5:mg "HANGING_MOST"=some (.int 4 A.wz)
 aao:mg "OPEN_CALL"=some (.int 0 A.DP)
 QD:mg "KEY_CALL"=some (.int 1 A.GK)
 Br:mg "CYLINDER_CALL"=some (.int 2 A.uK)
 aap:mg "DOOR_CALL"=some (.int 3 A.DQ)
 acA:mg "FIT_CALL"=some (.int 4 A.GP)
 aaq:mg "HANG_CALL"=some (.int 5 A.DR)
 Uz:mg "UNHANG_CALL"=some (.int 6 A.yN)
 UG:mg "COUNTS_CALL"=some (.int 7 A.yO)
 W0:mg "OPENS_CALL"=some (.int 8 A.Ae)
 W2:mg "LEADS_CALL"=some (.int 9 A.Af)
 W3:mg "FOUND_CALL"=some (.int 10 A.Ag)
 acB:mg "WAY_CALL"=some (.int 11 A.GQ)
 Jk:mg "SMALL_CALL"=some (.int 12 A.Ah)
 UJ:mg "NEEDED_CALL"=some (.int 13 A.yP)
 Q6:mg "THROUGH_CALL"=some (.int 14 A.wB)
 W4:mg "TRAPS_CALL"=some (.int 15 A.Ai)
 aar:mg "SHUT_CALL"=some (.int 16 A.DW)
 af3:mg "WHOLES"=some (.ref A.Bo)
 OD:∀H,Sv K H A.Bo [.int 7, .int 1, .int 1, .int 6, .int 3, .int 2, .int 1, .int 0, .int 1, .int 2, .int 2, .int 3, .int 4, .int 3, .int 3, .int 2, .int 2, .int 1]
 UL:mg "all"=none
 aas:mg "enumerate"=none
 fK:mg "len"=none
 aiU:mg "list"=none
 ahz:mg "min"=none
 ud:mg "range"=none
 ahA:mg "set"=none
 Bs:mg "sorted"=none
 ajR:mg "sum"=none
 ahB:mg "zip"=none
theorem J0 {P:List Value→Prop}(h:∀a:Value,P [a]):∀us:List Value,us.length=1→P us
 |[a],_=>h a
theorem uQ {P:List Value→Prop}(h:∀a b:Value,P [a,b]):∀us:List Value,us.length=2→P us
 |[a,b],_=>h a b
theorem Fi {P:List Value→Prop}(h:∀a b c:Value,P [a,b,c]):∀us:List Value,us.length=3→P us
 |[a,b,c],_=>h a b c
theorem us4 {P:List Value→Prop}(h:∀a b c d:Value,P [a,b,c,d]):∀us:List Value,us.length=4→P us
 |[a,b,c,d],_=>h a b c d
theorem us5 {P:List Value→Prop}(h:∀a b c d e:Value,P [a,b,c,d,e]):∀us:List Value,us.length=5→P us
 |[a,b,c,d,e],_=>h a b c d e
theorem us7 {P:List Value→Prop}(h:∀a b c d e f g:Value,P [a,b,c,d,e,f,g]):∀us:List Value,us.length=7→P us
 |[a,b,c,d,e,f,g],_=>h a b c d e f g
section
variable {K:PySem.W.Frag}{mg:Str→Option Value}{A:Ad}(T:Txt K mg A)
include T
theorem aat:Binds K A.qe ["self","chambers","depths","step","pin","kinds","run"] []:=T.xg.binds (ps:=["self","chambers","depths","step","pin","kinds","run"]) fun _ _ _ _ _ _=>us7 fun _ _ _ _ _ _ _=>rfl
theorem acC:Binds K A.tD ["self","grooves","cuts"] []:=T.zE.binds (ps:=["self","grooves","cuts"]) fun _ _ _ _ _ _=>Fi fun _ _ _=>rfl
theorem OJ:Binds K A.jM ["self","wards","depth_sets"] []:=T.pD.binds (ps:=["self","wards","depth_sets"]) fun _ _ _ _ _ _=>Fi fun _ _ _=>rfl
theorem uR:Binds K A.yI ["number","least","greatest"] []:=T.eO.fn.binds (ps:=["number","least","greatest"]) fun _ _ _ _ _ _=>Fi fun _ _ _=>rfl
theorem aeh:Binds K A.vC ["make"] []:=T.uL.fn.binds (ps:=["make"]) fun _ _ _ _ _ _=>J0 fun _=>rfl
theorem J1:Binds K A.vD ["bits","place"] []:=T.jW.fn.binds (ps:=["bits","place"]) fun _ _ _ _ _ _=>uQ fun _ _=>rfl
theorem aau:Binds K A.qg ["depth_set","depths"] []:=T.pF.fn.binds (ps:=["depth_set","depths"]) fun _ _ _ _ _ _=>uQ fun _ _=>rfl
theorem Q7:Binds K A.kh ["rising","pin"] []:=T.jA.fn.binds (ps:=["rising","pin"]) fun _ _ _ _ _ _=>uQ fun _ _=>rfl
theorem Q8:Binds K A.kj ["make","depth_set"] []:=T.jB.fn.binds (ps:=["make","depth_set"]) fun _ _ _ _ _ _=>uQ fun _ _=>rfl
theorem af4:Binds K A.yJ ["make","key"] []:=T.xM.fn.binds (ps:=["make","key"]) fun _ _ _ _ _ _=>uQ fun _ _=>rfl
theorem UW:Binds K A.mG ["make","cylinder"] []:=T.lq.fn.binds (ps:=["make","cylinder"]) fun _ _ _ _ _ _=>uQ fun _ _=>rfl
theorem ahC:Binds K A.Bm ["key","cylinder"] []:=T.Bp.fn.binds (ps:=["key","cylinder"]) fun _ _ _ _ _ _=>uQ fun _ _=>rfl
theorem W5:Binds K A.oH ["self","make","rooms"] []:=T.vg.binds (ps:=["self","make","rooms"]) fun _ _ _ _ _ _=>Fi fun _ _ _=>rfl
theorem aav:Binds K A.qm ["self"] []:=T.xq.binds (ps:=["self"]) fun _ _ _ _ _ _=>J0 fun _=>rfl
theorem U0:Binds K A.mH ["desk","make","rooms"] []:=T.lu.fn.binds (ps:=["desk","make","rooms"]) fun _ _ _ _ _ _=>Fi fun _ _ _=>rfl
theorem aei:Binds K A.vG ["house","key"] []:=T.uM.fn.binds (ps:=["house","key"]) fun _ _ _ _ _ _=>uQ fun _ _=>rfl
theorem Q9:Binds K A.kE ["house","cylinder"] []:=T.jC.fn.binds (ps:=["house","cylinder"]) fun _ _ _ _ _ _=>uQ fun _ _=>rfl
theorem Al:Binds K A.oJ ["side"] []:=T.fG.fn.binds (ps:=["side"]) fun _ _ _ _ _ _=>J0 fun _=>rfl
theorem Eb:Binds K A.vH ["house","room"] []:=T.iC.fn.binds (ps:=["house","room"]) fun _ _ _ _ _ _=>uQ fun _ _=>rfl
theorem G4:Binds K A.mJ ["house","key"] []:=T.gJ.fn.binds (ps:=["house","key"]) fun _ _ _ _ _ _=>uQ fun _ _=>rfl
theorem U3:Binds K A.vI ["house","number"] []:=T.oV.fn.binds (ps:=["house","number"]) fun _ _ _ _ _ _=>uQ fun _ _=>rfl
theorem uf:Binds K A.jj ["house","side"] []:=T.cZ.fn.binds (ps:=["house","side"]) fun _ _ _ _ _ _=>uQ fun _ _=>rfl
theorem acD:Binds K A.tL ["house","ends","first","second"] []:=T.rN.fn.binds (ps:=["house","ends","first","second"]) fun _ _ _ _ _ _=>us4 fun _ _ _ _=>rfl
theorem acE:Binds K A.tM ["house","number","side"] []:=T.rO.fn.binds (ps:=["house","number","side"]) fun _ _ _ _ _ _=>Fi fun _ _ _=>rfl
theorem acF:Binds K A.tO ["house","key","room"] []:=T.rP.fn.binds (ps:=["house","key","room"]) fun _ _ _ _ _ _=>Fi fun _ _ _=>rfl
theorem W6:Binds K A.oK ["house","key"] []:=T.mX.fn.binds (ps:=["house","key"]) fun _ _ _ _ _ _=>uQ fun _ _=>rfl
theorem aaw:Binds K A.qp ["house"] []:=T.pG.fn.binds (ps:=["house"]) fun _ _ _ _ _ _=>J0 fun _=>rfl
theorem zG:Binds K A.jk ["house","cylinder"] []:=T.eN.fn.binds (ps:=["house","cylinder"]) fun _ _ _ _ _ _=>uQ fun _ _=>rfl
theorem Ra:Binds K A.kI ["house","number"] []:=T.jD.fn.binds (ps:=["house","number"]) fun _ _ _ _ _ _=>uQ fun _ _=>rfl
theorem Mt:Binds K A.qt ["self","number","wholes","row","behind"] []:=T.xu.binds (ps:=["self","number","wholes","row","behind"]) fun _ _ _ _ _ _=>us5 fun _ _ _ _ _=>rfl
theorem aax:Binds K A.qu ["numbers","place"] []:=T.pH.fn.binds (ps:=["numbers","place"]) fun _ _ _ _ _ _=>uQ fun _ _=>rfl
theorem W7:Binds K A.oM ["numbers"] []:=T.mY.fn.binds (ps:=["numbers"]) fun _ _ _ _ _ _=>J0 fun _=>rfl
theorem Fb:Binds K A.kJ ["self","side","behind","is_free","turners"] []:=T.qX.binds (ps:=["self","side","behind","is_free","turners"]) fun _ _ _ _ _ _=>us5 fun _ _ _ _ _=>rfl
theorem aej:Binds K A.vJ ["numbers"] []:=T.uN.fn.binds (ps:=["numbers"]) fun _ _ _ _ _ _=>J0 fun _=>rfl
theorem W8:Binds K A.oN ["house","turners","number"] []:=T.mZ.fn.binds (ps:=["house","turners","number"]) fun _ _ _ _ _ _=>Fi fun _ _ _=>rfl
theorem cT:Binds K A.gG ["house"] []:=T.aX.fn.binds (ps:=["house"]) fun _ _ _ _ _ _=>J0 fun _=>rfl
theorem O1:Binds K A.yK ["bunch","passage"] []:=T.m6.fn.binds (ps:=["bunch","passage"]) fun _ _ _ _ _ _=>uQ fun _ _=>rfl
theorem Rb:Binds K A.kO ["by_room","side"] []:=T.jE.fn.binds (ps:=["by_room","side"]) fun _ _ _ _ _ _=>uQ fun _ _=>rfl
theorem lJ:Binds K A.mL ["by_room","bunch","start"] []:=T.bY.fn.binds (ps:=["by_room","bunch","start"]) fun _ _ _ _ _ _=>Fi fun _ _ _=>rfl
theorem jR:Binds K A.qw ["by_room","bunch","start","goal"] []:=T.bW.fn.binds (ps:=["by_room","bunch","start","goal"]) fun _ _ _ _ _ _=>us4 fun _ _ _ _=>rfl
theorem Rc:Binds K A.kW ["by_room","bunch","start"] []:=T.jF.fn.binds (ps:=["by_room","bunch","start"]) fun _ _ _ _ _ _=>Fi fun _ _ _=>rfl
theorem G5:Binds K A.fU ["by_room","bunch","goal"] []:=T.fu.fn.binds (ps:=["by_room","bunch","goal"]) fun _ _ _ _ _ _=>Fi fun _ _ _=>rfl
theorem Ec:Binds K A.fj ["by_room","bunch","start","goal"] []:=T.d7.fn.binds (ps:=["by_room","bunch","start","goal"]) fun _ _ _ _ _ _=>us4 fun _ _ _ _=>rfl
theorem O2:Binds K A.jO ["by_room","bunch","room"] []:=T.je.fn.binds (ps:=["by_room","bunch","room"]) fun _ _ _ _ _ _=>Fi fun _ _ _=>rfl
theorem W9:Binds K A.oO ["by_room","bunch","start"] []:=T.m7.fn.binds (ps:=["by_room","bunch","start"]) fun _ _ _ _ _ _=>Fi fun _ _ _=>rfl
theorem Bt:Binds K A.eV ["by_room","bunch"] []:=T.dI.fn.binds (ps:=["by_room","bunch"]) fun _ _ _ _ _ _=>uQ fun _ _=>rfl
theorem Ed:Binds K A.vK ["bunch"] []:=T.iD.fn.binds (ps:=["bunch"]) fun _ _ _ _ _ _=>J0 fun _=>rfl
theorem Mu:Binds K A.jl ["bunch"] []:=T.gU.fn.binds (ps:=["bunch"]) fun _ _ _ _ _ _=>J0 fun _=>rfl
theorem Ik:Binds K A.gH ["bunch"] []:=T.fO.fn.binds (ps:=["bunch"]) fun _ _ _ _ _ _=>J0 fun _=>rfl
theorem Mv:Binds K A.jm ["by_room","bunch","start","goal","with_back"] []:=T.gW.fn.binds (ps:=["by_room","bunch","start","goal","with_back"]) fun _ _ _ _ _ _=>us5 fun _ _ _ _ _=>rfl
theorem Mw:Binds K A.jo ["by_room","bunch","start","goal","with_back"] []:=T.gY.fn.binds (ps:=["by_room","bunch","start","goal","with_back"]) fun _ _ _ _ _ _=>us5 fun _ _ _ _ _=>rfl
theorem U4:Binds K A.mO ["by_room","bunch","start","goal"] []:=T.lA.fn.binds (ps:=["by_room","bunch","start","goal"]) fun _ _ _ _ _ _=>us4 fun _ _ _ _=>rfl
theorem Rf:Binds K A.kY ["house"] []:=T.jG.fn.binds (ps:=["house"]) fun _ _ _ _ _ _=>J0 fun _=>rfl
theorem U5:Binds K A.mQ ["by_room","hung","bunch","start"] []:=T.lB.fn.binds (ps:=["by_room","hung","bunch","start"]) fun _ _ _ _ _ _=>us4 fun _ _ _ _=>rfl
theorem J2:Binds K A.iK ["states"] []:=T.fZ.fn.binds (ps:=["states"]) fun _ _ _ _ _ _=>J0 fun _=>rfl
theorem Mx:Binds K A.jq ["states"] []:=T.gZ.fn.binds (ps:=["states"]) fun _ _ _ _ _ _=>J0 fun _=>rfl
theorem Xa:Binds K A.oR ["house","bunch","rooms"] []:=T.m8.fn.binds (ps:=["house","bunch","rooms"]) fun _ _ _ _ _ _=>Fi fun _ _ _=>rfl
theorem oY:Binds K A.vL ["numbers"] []:=T.cW.fn.binds (ps:=["numbers"]) fun _ _ _ _ _ _=>J0 fun _=>rfl
theorem aay:Binds K A.qx ["house","bunch","start"] []:=T.pI.fn.binds (ps:=["house","bunch","start"]) fun _ _ _ _ _ _=>Fi fun _ _ _=>rfl
theorem aaz:Binds K A.qy ["house","bunch","start"] []:=T.pJ.fn.binds (ps:=["house","bunch","start"]) fun _ _ _ _ _ _=>Fi fun _ _ _=>rfl
theorem aek:Binds K A.vM ["house","bunch","start","goal"] []:=T.uO.fn.binds (ps:=["house","bunch","start","goal"]) fun _ _ _ _ _ _=>us4 fun _ _ _ _=>rfl
theorem aaA:Binds K A.qz ["house","bunch","start","goal","back"] []:=T.pK.fn.binds (ps:=["house","bunch","start","goal","back"]) fun _ _ _ _ _ _=>us5 fun _ _ _ _ _=>rfl
theorem Xb:Binds K A.oU ["house","bunch","start","goal"] []:=T.m9.fn.binds (ps:=["house","bunch","start","goal"]) fun _ _ _ _ _ _=>us4 fun _ _ _ _=>rfl
theorem U6:Binds K A.mR ["house","bunch","start","goal"] []:=T.lE.fn.binds (ps:=["house","bunch","start","goal"]) fun _ _ _ _ _ _=>us4 fun _ _ _ _=>rfl
theorem aaB:Binds K A.qC ["house","bunch","start"] []:=T.pL.fn.binds (ps:=["house","bunch","start"]) fun _ _ _ _ _ _=>Fi fun _ _ _=>rfl
theorem acG:Binds K A.tX ["house","bunch","goal"] []:=T.rQ.fn.binds (ps:=["house","bunch","goal"]) fun _ _ _ _ _ _=>Fi fun _ _ _=>rfl
theorem aaC:Binds K A.qD ["house","bunch"] []:=T.pN.fn.binds (ps:=["house","bunch"]) fun _ _ _ _ _ _=>uQ fun _ _=>rfl
theorem Rg:Binds K A.kZ ["desk","wholes"] []:=T.jH.fn.binds (ps:=["desk","wholes"]) fun _ _ _ _ _ _=>uQ fun _ _=>rfl
theorem U7:Binds K A.mU ["house","wholes"] []:=T.lF.fn.binds (ps:=["house","wholes"]) fun _ _ _ _ _ _=>uQ fun _ _=>rfl
theorem Mz:Binds K A.jr ["house","call"] []:=T.g8.fn.binds (ps:=["house","call"]) fun _ _ _ _ _ _=>uQ fun _ _=>rfl
theorem J3:Binds K A.iM ["house","call"] []:=T.gh.fn.binds (ps:=["house","call"]) fun _ _ _ _ _ _=>uQ fun _ _=>rfl
theorem O3:Binds K A.jP ["house","call"] []:=T.jf.fn.binds (ps:=["house","call"]) fun _ _ _ _ _ _=>uQ fun _ _=>rfl
theorem U8:Binds K A.mV ["desk","call"] []:=T.lH.fn.binds (ps:=["desk","call"]) fun _ _ _ _ _ _=>uQ fun _ _=>rfl
theorem ajS:Binds K A.rM ["calls"] []:=T.uP.fn.binds (ps:=["calls"]) fun _ _ _ _ _ _=>J0 fun _=>rfl
end
end Kq
end
section
namespace Kq
open PySem PySem.Spec PyProof.Rows L2 Hk
abbrev nV (l:List Nat):List V:=l.map fun(n:Nat)=>V.int (n:Int)
def pO (A:Ad) (H:Hp) (a:Addr) (m:Kh.Make):Prop:=∃dx,H a=some (.ins A.lZ dx (Mi (.int m.n) (.int m.depths) (.int m.step) (.int m.pin) (.int m.kinds) (.int m.run)))
def fY (A:Ad) (H:Hp) (a:Addr) (k:Kh.Key):Prop:=∃dx l,H a=some (.ins A.DG dx (aak (.int k.grooves) (.ref l)))∧H l=some (.lst (nV k.cuts))
def rG (A:Ad) (H:Hp) (a:Addr) (c:Nat×List Nat):Prop:=∃dx l,H a=some (.ins A.jQ dx (Dm (.int c.1) (.ref l)))∧H l=some (.lst (nV c.2))
theorem pO.same {A:Ad}{H H':Hp}{a:Addr}{m:Kh.Make}(h:pO A H a m) (s:Same H H'):pO A H' a m:=by
 obtain⟨dx,h⟩:=h;exact⟨dx,s _ _ h⟩
theorem fY.same {A:Ad}{H H':Hp}{a:Addr}{m:Kh.Key}(h:fY A H a m) (s:Same H H'):fY A H' a m:=by
 obtain⟨dx,l,h,h2⟩:=h;exact⟨dx,l,s _ _ h,s _ _ h2⟩
theorem rG.same {A:Ad}{H H':Hp}{a:Addr}{m:Nat×List Nat}(h:rG A H a m) (s:Same H H'):rG A H' a m:=by
 obtain⟨dx,l,h,h2⟩:=h;exact⟨dx,l,s _ _ h,s _ _ h2⟩
theorem ug {l:List Nat}{i:Nat}{x:V}(h:(nV l)[i]?=some x):∃n,l[i]?=some n∧x= .int (n:Int):=by
 rw[List.getElem?_map]at h;obtain⟨n,h1,h2⟩:=Option.map_eq_some_iff.mp h;exact⟨n,h1,h2.symm⟩
theorem bR (l:List Nat):(nV l).length=l.length:=List.length_map _
section
variable {P:Program}{w:World}{K:PySem.W.Frag}{mg:Str→Option Value}{base:Heap}{A:Ad}
def ael:Sp:=fun vs H Q _=>∃x lo hi:Int,vs=[.int x, .int lo, .int hi]∧Q (.bl (decide (lo≤x)&&decide (x≤hi))) H
theorem rH (T:Txt K mg A):bK P w K mg base cV 1 A.HN A.yI ["number","least","greatest"] ael:=by
 refine T.eO.fn.ok aef (fun vs H Q E h=>?_) (fun cdv Ar outer s H vs Q E hr h=>?_)
 ·obtain⟨x,lo,hi,rfl,_⟩:=h
  rfl
 ·obtain⟨x,lo,hi,rfl,k⟩:=h
  refine⟨_,(aB (aL (o8 (eY adz (pv 1) (pv 0) (bD _)) (uV (eY adz (pv 0) (pv 2) (bD _)))))),?_⟩;exact Ev.and (fun Q q=>⟨_,rfl,_,rfl,_,_,rfl,rfl,q⟩) (fun _ Q q=>⟨_,rfl,_,rfl,_,_,rfl,rfl,q⟩) _ k
def acH:Sp:=fun vs H Q _=>∃n k:Nat,vs=[.int n, .int k]∧Q (.bl (n.testBit k)) H
theorem G6 (T:Txt K mg A):bK P w K mg base cV 1 A.Dp A.vD ["bits","place"] acH:=by
 refine T.jW.fn.ok acs (fun vs H Q E h=>?_) (fun cdv Ar outer s H vs Q E hr h=>?_)
 ·obtain⟨n,j,rfl,_⟩:=h
  rfl
 ·obtain⟨n,j,rfl,k⟩:=h
  refine⟨_,(aB (aL (eY dW (dw R4 (dw Zn (pv 0) (pv 1)) aO) aO (bD _)))),?_⟩;refine⟨_,rfl,_,rfl,_,_,rfl,rfl,Int.natCast_nonneg _,_,_,rfl,rfl,rfl,?_⟩;have e:decide (V.int (Builtin.bitAnd ((n:Int)/2^((j:Int)).toNat) 1)=V.int 1)=n.testBit j:=by
   rw[KH,PyProof.Rows.bitAnd_m1,←Kd.ag9];rfl
  rw[e];exact k
theorem win (lo hi n:Nat):(decide ((lo:Int)≤(n:Int))&&decide ((n:Int)≤(hi:Int)))=Kh.within lo hi n:=by
 unfold Kh.within;rw[Bool.eq_iff_iff];simp
def acI (A:Ad):Sp:=fun vs H Q _=>∃a m,vs=[.ref a]∧pO A H a m∧Q (.bl m.ok) H
theorem acJ (T:Txt K mg A):bK P w K mg base cV 2 A.Dn A.vC ["make"] (acI A):=by
 refine T.uL.fn.ok acr (fun vs H Q E h=>?_) (fun cdv Ar outer s H vs Q E hr h=>?_)
 ·obtain⟨a,m,rfl,_⟩:=h
  rfl
 ·obtain⟨a,m,rfl,⟨dx,hm⟩,k⟩:=h
  refine⟨_,(aB (aL (o8 (aH (rH T) (hr.mono (by decide)) rfl T.eO.mg T.eO.fn.kp (uR T) .nil aP (ak (aN (pv 0) rfl) (ak aO (ak (aY (v:= .int 7) rfl T.Oz ⟨_,rfl⟩) ao)))) (o8 (aH (rH T) (hr.mono (by decide)) rfl T.eO.mg T.eO.fn.kp (uR T) .nil aP (ak (aN (pv 0) rfl) (ak (aY (v:= .int 2) rfl T.Q0 ⟨_,rfl⟩) (ak (aY (v:= .int 10) rfl T.Uy ⟨_,rfl⟩) ao)))) (o8 (aH (rH T) (hr.mono (by decide)) rfl T.eO.mg T.eO.fn.kp (uR T) .nil aP (ak (aN (pv 0) rfl) (ak aO (ak (dw BZ (aN (pv 0) rfl) aO) ao)))) (o8 (aH (rH T) (hr.mono (by decide)) rfl T.eO.mg T.eO.fn.kp (uR T) .nil aP (ak (aN (pv 0) rfl) (ak aO (ak (dw BZ (aN (pv 0) rfl) aO) ao)))) (o8 (aH (rH T) (hr.mono (by decide)) rfl T.eO.mg T.eO.fn.kp (uR T) .nil aP (ak (aN (pv 0) rfl) (ak aO (ak (bH (adB rfl) (by rfl) T.ahz ae6 (ak (aN (pv 0) rfl) (ak (aN (pv 0) rfl) ao))) ao)))) (uV (aH (rH T) (hr.mono (by decide)) rfl T.eO.mg T.eO.fn.kp (uR T) .nil aP (ak (aN (pv 0) rfl) (ak aO (ak (aN (pv 0) rfl) ao)))))))))))),?_⟩;have key:m.ok=(Kh.within 1 7 m.n&&(Kh.within 2 10 m.depths&&(Kh.within 1 (m.depths-1) m.step&&(Kh.within 1 (m.depths-1) m.pin&&(Kh.within 1 (min m.n m.depths) m.kinds&&Kh.within 1 m.n m.run))))):=rfl;rw[key]at k;have c:=T.xG.cl;refine Ev.and (c:=Kh.within 1 7 m.n) (fun Q q=>⟨_,rfl,a,_,dx,_,_,rfl,hm,c,T.jg,rfl,_,_,_,rfl,?_⟩) (fun _=>Ev.and (c:=Kh.within 2 10 m.depths) (fun Q q=>⟨_,rfl,a,_,dx,_,_,rfl,hm,c,T.gK,rfl,_,_,_,rfl,?_⟩) (fun hd=>
   Ev.and (c:=Kh.within 1 (m.depths-1) m.step) (fun Q q=>⟨_,rfl,a,_,dx,_,_,rfl,hm,c,T.Mq,rfl,_,rfl,a,_,dx,_,_,rfl,hm,c,T.gK,rfl,_,_,rfl,rfl,_,_,_,rfl,?_⟩) (fun _=>
   Ev.and (c:=Kh.within 1 (m.depths-1) m.pin) (fun Q q=>⟨_,rfl,a,_,dx,_,_,rfl,hm,c,T.GR,rfl,_,rfl,a,_,dx,_,_,rfl,hm,c,T.gK,rfl,_,_,rfl,rfl,_,_,_,rfl,?_⟩) (fun _=>
   Ev.and (c:=Kh.within 1 (min m.n m.depths) m.kinds) (fun Q q=>⟨_,rfl,a,_,dx,_,_,rfl,hm,c,T.Jj,rfl,_,rfl,a,_,dx,_,_,rfl,hm,c,T.jg,rfl,_,rfl,a,_,dx,_,_,rfl,hm,c,T.gK,rfl,_,_,rfl,_,_,_,rfl,?_⟩) (fun _=>
   (fun Q q=>⟨_,rfl,a,_,dx,_,_,rfl,hm,c,T.QC,rfl,_,rfl,a,_,dx,_,_,rfl,hm,c,T.jg,rfl,_,_,_,rfl,?_⟩)))))) _ k
  ·rw[←win]at q;exact q
  ·rw[←win]at q;exact q
  ·have h2:=(Bool.and_eq_true_iff.mp hd).1
   have h2:=of_decide_eq_true h2;rw[←win,show((m.depths-1:Nat):Int)=(m.depths:Int)-1 by omega]at q;exact q
  ·have h2:=(Bool.and_eq_true_iff.mp hd).1
   have h2:=of_decide_eq_true h2;rw[←win,show((m.depths-1:Nat):Int)=(m.depths:Int)-1 by omega]at q;exact q
  ·rw[←win,show((min m.n m.depths:Nat):Int)=(if (m.depths:Int)<(m.n:Int)then(m.depths:Int)else(m.n:Int)) by split<;>omega]at q;exact q
  ·rw[←win]at q;exact q
theorem U9 (s i:Nat):Kd.fM s (i+1)=Kd.fM s i++(if s.testBit i=true then[i]else[]):=by
 unfold Kd.fM;rw[List.range_succ,List.filter_append,List.filter_cons,List.filter_nil]
theorem Jl (s D:Nat):(Kd.fM s D).length≤D:=Kd.bB _ _
def Xc:Sp:=fun vs H Q _=>∃s D:Nat,vs=[.int s, .int D]∧D≤1000∧∀H' l,Same H H'→H l=none→H' l=some (.lst (nV (Kd.fM s D)))→Q (.ref l) H'
theorem Xd (T:Txt K mg A):bK P w K mg base cV 2 A.wN A.qg ["depth_set","depths"] Xc:=by
 refine T.pF.fn.ok zX (fun vs H Q E h=>?_) (fun cdv Ar outer s H vs Q E hr h=>?_)
 ·obtain⟨n,j,rfl,_⟩:=h
  rfl
 ·obtain⟨n,j,rfl,hj,k⟩:=h
  refine⟨_,(aB (aL (pW rfl zX.nd (lQ rfl T.ud (ak (pv 1) ao)) (gP (N:=["depth_set","depths","depth"]) (sc:=aF wM) (own:=[("depth",2)]) rfl (by decide+kernel)) (fun _ _ _ _ _=>(cO (i:=2) zX.nd rfl (by first|exact Or.inl rfl|exact Or.inr rfl))) (fun _ _ _ _ _=>(rY (dj (aH (G6 T) (hr.mono (by decide)) rfl T.jW.mg T.jW.fn.kp (J1 T) .nil aP (ak (pv 0) (ak (pv 2) ao)))))) (fun _ _ _ _ _=>(pv 2))))),?_⟩;refine⟨_,rfl,_,rfl,by omega,by omega,fun D hD=>Bg (n:=j) (fun i H'=>Acc H D (nV (Kd.fM n i)) H') (Acc.start hD) (fun i H' hi acc=>?_) (fun H' acc=>k H' D acc.same hD acc.lst)⟩;refine⟨rfl,_,rfl,_,rfl,n,i,by simp,_,rfl,?_⟩;have e:=U9 n i;cases c:n.testBit i with
  |false=>
   rw[c,if_neg (by simp),List.append_nil]at e;show Acc H D (nV (Kd.fM n (i+1))) H';rw[e];exact acc
  |true=>
   rw[c,if_pos rfl]at e;refine⟨_,rfl,_,acc.lst,?_,?_⟩
   ·rw[bR]
    have:=Jl n i;show _<16777216;omega
   ·have q:=acc.push (same_refl _) hD (.int (0+(i:Int)))
    rw[Int.zero_add]at q⊢;rw[e,show nV (Kd.fM n i++[i])=nV (Kd.fM n i)++[V.int (i:Int)]from List.map_append ..];exact q
end
end Kq
end
section
namespace Kq
open PySem PySem.Spec PyProof.Rows L2 Hk
theorem aU {K:PySem.W.Frag}{H:Hp}{a:Addr}{xs:List V}(h:H a=some (.lst xs)):dR K H a xs:=dR.of h
theorem af5 (xs:List V):Iz xs (some 1) none=xs.drop 1:=by
 unfold Iz;rw[HT.aft,show(1:Int)=((1:Nat):Int)from rfl,HT.Fy];by_cases c:1≤xs.length
 ·rw[Nat.min_eq_left c,List.take_of_length_le (by simp)]
 ·have:xs=[]:=List.length_eq_zero_iff.mp (by omega)
  subst this;rfl
theorem cB {n:Nat}(h:n≤30000):n<sizeLine:=by
 show n<16777216;omega
section
variable {P:Program}{w:World}{K:PySem.W.Frag}{mg:Str→Option Value}{base:Heap}{A:Ad}
def O4:Sp:=fun vs H Q _=>∃(a:Addr) (l:List Nat) (p:Nat),vs=[.ref a, .int p]∧H a=some (.lst (nV l))∧l.length≤1000∧∀H',Same H H'→Q (.bl (Kh.apart p l)) H'
theorem O5 (T:Txt K mg A):bK P w K mg base cV 1 A.qM A.kh ["rising","pin"] O4:=by
 refine T.jA.fn.ok uF (fun vs H Q E h=>?_) (fun cdv Ar outer s H vs Q E hr h=>?_)
 ·obtain⟨a,l,p,rfl,_⟩:=h
  rfl
 ·obtain⟨a,l,p,rfl,ha,hl,k⟩:=h
  refine⟨_,(aB (aL (bH (K5 rfl) (by rfl) T.UL Ml (ak (pW rfl uF.nd (ae1 rfl T.ahB (ak (pv 0) (ak (Hw KR (pv 0) (xQ aO) agN) ao))) (gP (N:=["rising","pin","lower","higher"]) (sc:=aF qI) (own:=[("lower",2),("higher",3)]) rfl (by decide+kernel)) (fun _ _ _ _ _=>(Lz K rfl (i:=2) (j:=3) rfl uF.nd rfl rfl (by first|exact Or.inl rfl|exact Or.inr rfl) (by first|exact Or.inl rfl|exact Or.inr rfl) (by first|exact Or.inl rfl|exact Or.inr rfl) (by first|exact Or.inl rfl|exact Or.inr rfl))) (fun _ _ _ _ _=>nZ) (fun _ _ _ _ _=>(eY agE (dw BZ (pv 3) (pv 2)) (pv 1) (bD _)))) ao)))),?_⟩;refine⟨_,rfl,_,rfl,_,rfl,a,_,rfl,aU ha,fun b hb=>?_⟩;rw[af5];have s1:Same H (upd H b (.lst ((nV l).drop 1))):=aZ hb;refine⟨a,b,_,_,rfl,aU (s1 _ _ ha),aU aq,fun D hD=>?_⟩;have ed:(nV l).drop 1=nV l.tail:=by rw[List.drop_one];exact(List.map_tail ..).symm
  rw[ed]at s1 hD⊢;generalize hH1:upd H b (.lst (nV l.tail))=H1 at s1 hD⊢;have hb1:H1 b=some (.lst (nV l.tail)):=by rw[←hH1];exact aq
  have ln:((l.zip l.tail).map fun x=>decide (x.1+p≤x.2)).length=l.length-1:=by
   rw[List.length_map,List.length_zip,List.length_tail];omega
  refine ahk (n:=l.length-1) (xs:=nV l) (ys:=nV l.tail) (by rw[bR];omega) (by rw[bR,List.length_tail];exact Nat.le_refl _) (.inr (by rw[bR,List.length_tail])) (fun i H'=>Acc H1 D ((((l.zip l.tail).map fun x=>decide (x.1+p≤x.2)).take i).map V.bl) H')
   (Acc.start hD) (fun i H' _ acc=>⟨aU (acc.same _ _ (s1 _ _ ha)),aU (acc.same _ _ hb1)⟩) (fun i x y H' t hi hx hy acc ht=>?_) (fun H' acc=>?_)
  ·obtain⟨n,hn,rfl⟩:=ug hx
   obtain⟨m,hm,rfl⟩:=ug hy;refine⟨t,_,rfl, .inl (.inl aq),rfl,_,_,rfl,_,_,rfl,rfl,rfl,?_⟩;have s2:Same H' (upd H' t (.tup [.int n, .int m])):=aZ ht;refine⟨_,rfl,_,rfl,_,_,rfl,rfl,_,rfl,_,_,rfl,rfl,_,s2 _ _ acc.lst,?_,?_⟩
   ·rw[List.length_map]
    exact cB (by have:=List.length_take_le i ((l.zip l.tail).map fun x=>decide (x.1+p≤x.2));omega)
   ·have hz:((l.zip l.tail).map fun x=>decide (x.1+p≤x.2))[i]?=some (decide (n+p≤m)):=by
     rw[List.getElem?_map,List.getElem?_zip_eq_some (z:=(n,m)) |>.mpr ⟨hn,hm⟩];rfl
    have e:decide ((p:Int)≤(m:Int)-(n:Int))=decide (n+p≤m):=by
     rw[Bool.eq_iff_iff,decide_eq_true_iff,decide_eq_true_iff];omega
    rw[Kd.take_snoc hz,List.map_append,←e];exact acc.push s2 hD _
  ·refine⟨D,_,rfl,aU acc.lst,?_⟩
   rw[List.take_of_length_le (by omega)];have e:(((l.zip l.tail).map fun x=>decide (x.1+p≤x.2)).all id)=Kh.apart p l:=by
    rw[Kd.T7,List.all_map];rfl
   rw[e];exact k H' (s1.trans acc.same)
def O6 (A:Ad):Sp:=fun vs H Q _=>∃(a:Addr) (m:Kh.Make) (s:Nat),vs=[.ref a, .int s]∧pO A H a m∧m.depths≤10∧∀H',Same H H'→Q (.bl (Kd.setOk m.depths m.pin s)) H'
theorem O7 (T:Txt K mg A):bK P w K mg base cV 3 A.qN A.kj ["make","depth_set"] (O6 A):=by
 refine T.jB.fn.ok Bk (fun vs H Q E h=>?_) (fun cdv Ar outer s H vs Q E hr h=>?_)
 ·obtain⟨a,m,n,rfl,_⟩:=h
  rfl
 ·obtain⟨a,m,n,rfl,⟨dx,hm⟩,hD,k⟩:=h
  have c:=T.xG.cl;refine⟨_,(au (bU (bM Ft (dw Zn (pv 1) (aN (pv 0) rfl)) aO (bD _))
    (aB (aL Jq))
    bC)
   (au (bJ (i:=2) Bk.nd rfl (by first|exact Or.inl rfl|exact Or.inr rfl) (aH (Xd T) (hr.mono (by decide)) rfl T.pF.mg T.pF.fn.kp (aau T) .nil aP (ak (pv 1) (ak (aN (pv 0) rfl) ao))))
   (aB (aL (o8 (aH (rH T) (hr.mono (by decide)) rfl T.eO.mg T.eO.fn.kp (uR T) .nil aP (ak (bH cA (by rfl) T.fK dG (ak (pv 2) ao)) (ak aO (ak (aY (v:= .int 6) rfl T.DY ⟨_,rfl⟩) ao)))) (uV (aH (O5 T) (hr.mono (by decide)) rfl T.jA.mg T.jA.fn.kp (Q7 T) .nil aP (ak (pv 2) (ak (aN (pv 0) rfl) ao))))))))),?_⟩
  refine⟨_,rfl,_,rfl,a,_,dx,_,_,rfl,hm,c,T.gK,rfl,_,_,rfl,rfl,Int.natCast_nonneg _,rfl,_,rfl,?_⟩;have e:(!decide (V.int ((n:Int)/2^((m.depths:Int)).toNat)=V.int 0))= !decide (n/2^m.depths=0):=by
   rw[KH]
   congr 1
   show((n:Int)/2^m.depths==0)=_;rw[Bool.eq_iff_iff,beq_iff_eq,decide_eq_true_iff];rw[show((n:Int)/2^m.depths)=((n/2^m.depths:Nat):Int) by simp];omega
  rw[e];unfold Kd.setOk at k;by_cases q:n/2^m.depths=0
  ·rw[decide_eq_true q]at k⊢
   refine⟨_,rfl,_,rfl,a,_,dx,_,_,rfl,hm,c,T.gK,rfl,n,m.depths,rfl,by omega,fun H1 l s1 hl hl1=>?_⟩;have dl:=Jl n m.depths;dsimp only[pU];refine Eg.and (c:=Kh.within 1 6 (Kd.fM n m.depths).length) (d:=Kh.apart m.pin (Kd.fM n m.depths)) (Ev.eg fun Q q=>⟨_,rfl,_,_,rfl, .inl ⟨_,aU hl1,rfl⟩,_,_,_,rfl,?_⟩) (fun _ H2 s2 Q q=>⟨_,rfl,_,rfl,a,_,dx,_,_,rfl,s2 _ _ (s1 _ _ hm),c,T.GR,rfl,l,_,m.pin,rfl,s2 _ _ hl1,by omega,q⟩) _ fun H3 s3=>?_
   ·rw[Bool.true_and]at k
    exact k H3 (s1.trans s3)
   ·rw[←win,←bR]at q
    exact q
  ·rw[decide_eq_false q]at k⊢
   exact k H (same_refl H)
theorem Same.sq {K:PySem.W.Frag}{H H':Hp}{a:Addr}{xs:List V}(s:Same H H') (h:H a=some (.lst xs)):dR K H' a xs:=dR.of (s _ _ h)
def aem (A:Ad):Sp:=fun vs H Q _=>∃(a b:Addr) (m:Kh.Make) (x:Kh.Key),vs=[.ref a, .ref b]∧pO A H a m∧fY A H b x∧x.cuts.length≤16∧∀H',Same H H'→Q (.bl (Kh.Key.shaped m x)) H'
theorem aen (T:Txt K mg A):bK P w K mg base cV 1 A.HS A.yJ ["make","key"] (aem A):=by
 refine T.xM.fn.ok JK (fun vs H Q E h=>?_) (fun cdv Ar outer s H vs Q E hr h=>?_)
 ·obtain⟨a,b,m,n,rfl,_⟩:=h
  rfl
 ·obtain⟨a,b,m,x,rfl,⟨dx,hm⟩,⟨dy,l,hx,hl⟩,hn,k⟩:=h
  have c:=T.xG.cl;have ck:=T.JZ.cl;refine⟨_,(aB (aL (o8 (eY dW (bH cA (by rfl) T.fK dG (ak (aN (pv 1) rfl) ao)) (aN (pv 0) rfl) (bD _)) (o8 (bH (K5 rfl) (by rfl) T.UL Ml (ak (pW rfl JK.nd (iI (aN (pv 1) rfl)) (gP (N:=["make","key","cut"]) (sc:=aF HJ) (own:=[("cut",2)]) rfl (by decide+kernel)) (fun _ _ _ _ _=>(cO (i:=2) JK.nd rfl (by first|exact Or.inl rfl|exact Or.inr rfl))) (fun _ _ _ _ _=>nZ) (fun _ _ _ _ _=>(eY Fv (pv 2) (ab8 K rfl (pv 0) rfl) (bD _)))) ao)) (uV (eY Fv (aN (pv 1) rfl) (aY (v:= .int 67108864) rfl T.G3 ⟨_,rfl⟩) (bD _))))))),?_⟩;rw[show Kh.Key.shaped m x=_ from Kd.YD]at k;refine Eg.and (Ev.eg fun Q q=>⟨_,rfl,b,_,dy,_,_,rfl,hx,ck,T.zF,rfl,_,_,rfl, .inl ⟨_,aU hl,rfl⟩,_,rfl,a,_,dx,_,_,rfl,hm,c,T.jg,rfl,rfl,?a⟩)
   (fun _ H1 s1=>Eg.and (c:=x.cuts.all fun y=>decide (y<m.depths)) ?b (fun _ H2 s2=>Ev.eg fun Q q=>⟨_,rfl,b,_,dy,_,_,rfl,s2 _ _ (s1 _ _ hx),ck,T.yQ,rfl,_,_,rfl,rfl,?c⟩)) _ k
  case a=>
   rw[bR,vEq];exact q
  case c=>
   show Q (V.bl (decide ((x.grooves:Int)<((67108864:Nat):Int)))) H2;rw[iLt];exact q
  case b=>
   have e:(x.cuts.all fun y=>decide (y<m.depths))=(x.cuts.map fun y=>decide (y<m.depths)).all id:=by rw[List.all_map];rfl
   rw[e];refine R8 (Bh (xs:=nV x.cuts) (fun Q q=>⟨_,rfl,b,_,dy,_,_,rfl,s1 _ _ hx,ck,T.zF,rfl,q⟩) (Same.sq s1 hl) (by rw[bR];omega) (by simp) (fun _=>rfl) (fun j u y H2 hu hy s2=>Ev.eg fun Q q=>?_));obtain⟨n,h1,rfl⟩:=ug hu;refine⟨_,rfl,_,rfl,a,_,dx,_,_,rfl,s2 _ _ (s1 _ _ hm),c,T.gK,rfl,_,_,rfl,rfl,?_⟩;rw[List.getElem?_map,List.getElem?_map,h1]at hy;have hy:V.bl (decide (n<m.depths))=y:=Option.some.inj hy;show Q (V.bl (decide ((n:Int)<(m.depths:Int)))) H2;rw[iLt,hy];exact q
def Rh (A:Ad):Sp:=fun vs H Q _=>∃(a b:Addr) (m:Kh.Make) (x:Nat×List Nat),vs=[.ref a, .ref b]∧pO A H a m∧m.depths≤10∧rG A H b x∧x.2.length≤16∧(∀s∈x.2,s<2^32)∧∀H',Same H H'→Q (.bl (Kh.Cyl.ok m (Kd.fX x))) H'
theorem Ri (T:Txt K mg A):bK P w K mg base cV 4 A.tE A.mG ["make","cylinder"] (Rh A):=by
 refine T.lq.fn.ok vW (fun vs H Q E h=>?_) (fun cdv Ar outer s H vs Q E hr h=>?_)
 ·obtain⟨a,b,m,n,rfl,_⟩:=h
  rfl
 ·obtain⟨a,b,m,x,rfl,⟨dx,hm⟩,hD,⟨dy,l,hx,hl⟩,hn,h32,k⟩:=h
  have c:=T.xG.cl;have ck:=T.oW.cl;refine⟨_,(aB (aL (o8 (eY dW (bH cA (by rfl) T.fK dG (ak (aN (pv 1) rfl) ao)) (aN (pv 0) rfl) (bD _)) (o8 (bH (K5 rfl) (by rfl) T.UL Ml (ak (pW rfl vW.nd (iI (aN (pv 1) rfl)) (gP (N:=["make","cylinder","depth_set"]) (sc:=aF sI) (own:=[("depth_set",2)]) rfl (by decide+kernel)) (fun _ _ _ _ _=>(cO (i:=2) vW.nd rfl (by first|exact Or.inl rfl|exact Or.inr rfl))) (fun _ _ _ _ _=>nZ) (fun _ _ _ _ _=>(aH (O7 T) (hr.mono (by decide)) rfl T.jB.mg T.jB.fn.kp (Q8 T) .nil aP (ak (pv 0) (ak (pv 2) ao))))) ao)) (uV (eY Fv (aN (pv 1) rfl) (aY (v:= .int 67108864) rfl T.G3 ⟨_,rfl⟩) (bD _))))))),?_⟩;rw[show Kh.Cyl.ok m (Kd.fX x)=_ from Kd.YC h32 (by omega)]at k;refine Eg.and (Ev.eg fun Q q=>⟨_,rfl,b,_,dy,_,_,rfl,hx,ck,T.iU,rfl,_,_,rfl, .inl ⟨_,aU hl,rfl⟩,_,rfl,a,_,dx,_,_,rfl,hm,c,T.jg,rfl,rfl,?a⟩)
   (fun _ H1 s1=>Eg.and (c:=x.2.all (Kd.setOk m.depths m.pin)) ?b (fun _ H2 s2=>Ev.eg fun Q q=>⟨_,rfl,b,_,dy,_,_,rfl,s2 _ _ (s1 _ _ hx),ck,T.nR,rfl,_,_,rfl,rfl,?c⟩)) _ k
  case a=>
   rw[bR,vEq];exact q
  case c=>
   show Q (V.bl (decide ((x.1:Int)<((67108864:Nat):Int)))) H2;rw[iLt];exact q
  case b=>
   have e:(x.2.all (Kd.setOk m.depths m.pin))=(x.2.map (Kd.setOk m.depths m.pin)).all id:=by rw[List.all_map];rfl
   rw[e];refine R8 (Bh (xs:=nV x.2) (fun Q q=>⟨_,rfl,b,_,dy,_,_,rfl,s1 _ _ hx,ck,T.iU,rfl,q⟩) (Same.sq s1 hl) (by rw[bR];omega) (by simp) (fun _=>rfl) (fun j u y H2 hu hy s2 Q q=>?_));obtain⟨n,h1,rfl⟩:=ug hu;refine⟨_,rfl,_,rfl,a,m,n,rfl,⟨dx,s2 _ _ (s1 _ _ hm)⟩,hD,fun H3 s3=>?_⟩;rw[List.getElem?_map,List.getElem?_map,h1]at hy;have hy:V.bl (Kd.setOk m.depths m.pin n)=y:=Option.some.inj hy;rw[hy];exact q H3 s3
theorem zH (a b:Nat):Builtin.bitAnd (a:Int) (b:Int)=((a&&&b:Nat):Int):=by
 unfold Builtin.bitAnd;rw[decide_eq_true (Int.natCast_nonneg a),decide_eq_true (Int.natCast_nonneg b)];rfl
def af6 (A:Ad):Sp:=fun vs H Q _=>∃(a b:Addr) (x:Kh.Key) (y:Nat×List Nat),vs=[.ref a, .ref b]∧fY A H a x∧rG A H b y∧x.cuts.length=y.2.length∧x.cuts.length≤16∧(∀c∈x.cuts,c<32)∧y.1<2^26∧∀H',Same H H'→Q (.bl (Kh.turns x (Kd.fX y))) H'
theorem af7 (T:Txt K mg A):bK P w K mg base cV 2 A.Mp A.Bm ["key","cylinder"] (af6 A):=by
 refine T.Bp.fn.ok Om (fun vs H Q E h=>?_) (fun cdv Ar outer s H vs Q E hr h=>?_)
 ·obtain⟨a,b,m,n,rfl,_⟩:=h
  rfl
 ·obtain⟨a,b,x,y,rfl,⟨dx,l,hx,hl⟩,⟨dy,r,hy,hr'⟩,hlen,h16,h32,hw,k⟩:=h
  have c:=T.JZ.cl;have ck:=T.oW.cl;refine⟨_,(au (bU (bM Ft (dw R4 (aN (pv 0) rfl) (aN (pv 1) rfl)) (aN (pv 1) rfl) (bD _))
    (aB (aL Jq))
    bC)
   (aB (aL (bH (K5 rfl) (by rfl) T.UL Ml (ak (pW rfl Om.nd (ae1 rfl T.ahB (ak (aN (pv 0) rfl) (ak (aN (pv 1) rfl) ao))) (gP (N:=["key","cylinder","cut","depth_set"]) (sc:=aF Mh) (own:=[("cut",2),("depth_set",3)]) rfl (by decide+kernel)) (fun _ _ _ _ _=>(Lz K rfl (i:=2) (j:=3) rfl Om.nd rfl rfl (by first|exact Or.inl rfl|exact Or.inr rfl) (by first|exact Or.inl rfl|exact Or.inr rfl) (by first|exact Or.inl rfl|exact Or.inr rfl) (by first|exact Or.inl rfl|exact Or.inr rfl))) (fun _ _ _ _ _=>nZ) (fun _ _ _ _ _=>(aH (G6 T) (hr.mono (by decide)) rfl T.jW.mg T.jW.fn.kp (J1 T) .nil aP (ak (pv 3) (ak (pv 2) ao))))) ao))))),?_⟩
  rw[show Kh.turns x (Kd.fX y)=_ from Kd.afI hw hlen h32]at k;refine cD (b:= !decide (x.grooves&&&y.1=y.1)) (fun Q q=>⟨_,rfl,a,_,dx,_,_,rfl,hx,c,T.yQ,rfl,_,rfl,b,_,dy,_,_,rfl,hy,ck,T.nR,rfl,_,_,rfl,rfl,_,rfl,b,_,dy,_,_,rfl,hy,ck,T.nR,rfl,rfl,_,rfl,?a⟩) (fun e=>?b) (fun e=>?c);case a=>
   show Q (!decide (V.int (Builtin.bitAnd (x.grooves:Int) (y.1:Int))=V.int (y.1:Int))) H;rw[zH,vEq];exact q
  case b=>
   rw[Bool.not_eq_true']at e;rw[e]at k;exact k H (same_refl H)
  case c=>
   rw[Bool.not_eq_false']at e;rw[e]at k;have e:((x.cuts.zip y.2).all fun x=>x.2.testBit x.1)=((x.cuts.zip y.2).map fun x=>x.2.testBit x.1).all id:=by rw[List.all_map];rfl
   rw[Bool.true_and,e]at k;refine ae4 (R8 (aiF (xs:=nV x.cuts) (ys:=nV y.2) (fun R q=>⟨_,rfl,a,_,dx,_,_,rfl,hx,c,T.zF,rfl,_,rfl,b,_,dy,_,_,rfl,hy,ck,T.iU,rfl,q⟩) (aU hl) (aU hr') (by rw[bR];omega) (by rw[bR,bR,hlen]) (by simp[hlen]) (fun _ _=>rfl) (fun j u v z H2 hu hv hz s2=>Ev.eg fun Q q=>?_))) k;obtain⟨n,h1,rfl⟩:=ug hu;obtain⟨o,h2,rfl⟩:=ug hv;refine⟨_,rfl,_,rfl,o,n,rfl,?_⟩;rw[List.getElem?_map,List.getElem?_map,List.getElem?_zip_eq_some (z:=(n,o)) |>.mpr ⟨h1,h2⟩]at hz;have hz:V.bl (o.testBit n)=z:=Option.some.inj hz;rw[hz];exact q
end
end Kq
end
section
namespace Kq
open PySem PySem.Spec PyProof.Rows L2 Hk
abbrev rV (l:List Addr):List V:=l.map V.ref
structure lM where
 dx:Addr
 aM:Addr
 aK:Addr
 aC:Addr
 aD:Addr
 aS:Addr
 aG:Addr
 ks:List Addr
 cs:List Addr
 ds:List Addr
 ss:List Addr
def J4:Kh.Side→Nat×Nat
 | .free=>(0,0)
 | .locked c=>(1,c)
 | .shut=>(2,0)
def Sg (H:Hp) (t:Addr) (x:Kh.Side):Prop:=H t=some (.tup [.int (J4 x).1, .int (J4 x).2])
def uo (hg:List (Nat×Nat)):List (L2.Key×V):=hg.map fun p=>((Sum.inl (p.1:Int):L2.Key),V.int (p.2:Int))
structure bh (A:Ad) (H:Hp) (a:Addr) (z:lM) (h:Kh.House) (cb:List (Nat×List Nat)) (hg:List (Nat×Nat)):Prop where
 ins:H a=some (.ins A.cR z.dx (Ov (.ref z.aM) (.int h.rooms) (.ref z.aK) (.ref z.aC) (.ref z.aD) (.ref z.aS) (.ref z.aG)))
 mak:pO A H z.aM h.make
 iW:H z.aK=some (.lst (rV z.ks))
 oZ:z.ks.length=h.keys.length
 keys:∀(i:Nat) x k,z.ks[i]?=some x→h.keys[i]?=some k→fY A H x k
 jw:H z.aC=some (.lst (rV z.cs))
 nu:z.cs.length=cb.length
 cyls:∀(i:Nat) x c,z.cs[i]?=some x→cb[i]?=some c→rG A H x c
 gA:H z.aD=some (.lst (rV z.ds))
 mD:z.ds.length=h.doors.length
 doors:∀(i:Nat) x d,z.ds[i]?=some x→h.doors[i]?=some d→H x=some (.tup [.int d.a, .int d.b])
 fL:H z.aS=some (.lst (rV z.ss))
 jT:z.ss.length=2*h.doors.length
 sides:∀(j:Nat) x y,z.ss[j]?=some x→h.side j=some y→Sg H x y
 hang:H z.aG=some (.dK (uo hg))
 nd:[z.aK,z.aC,z.aD,z.aS].Nodup
theorem bh.same {A:Ad}{H H':Hp}{a:Addr}{z:lM}{h:Kh.House}{cb:List (Nat×List Nat)}{hg:List (Nat×Nat)}(X:bh A H a z h cb hg) (s:Same H H'):bh A H' a z h cb hg:=
 ⟨s _ _ X.ins,X.mak.same s,s _ _ X.iW,X.oZ,fun i x k h1 h2=>(X.keys i x k h1 h2).same s,s _ _ X.jw,X.nu,fun i x k h1 h2=>(X.cyls i x k h1 h2).same s,s _ _ X.gA,X.mD,fun i x k h1 h2=>s _ _ (X.doors i x k h1 h2),s _ _ X.fL,X.jT,fun i x k h1 h2=>s _ _ (X.sides i x k h1 h2),s _ _ X.hang,X.nd⟩
def Keep (H:Hp) (p:Addr) (H':Hp):Prop:=∀b o,H b=some o→b≠p→H' b=some o
theorem cC {H:Hp}{p:Addr}{o:HO}:Keep H p (upd H p o):=fun b u e n=>by rw[aJ n];exact e
theorem Y6 {l:List Nat}{r:List Addr}(h:l≠[]):nV l≠rV r:=by
 intro e;match l,r,h,e with
 |[],_,h,_=>exact h rfl
 |x::l,[],_,e=>cases e
 |x::l,y::r,_,e=>cases e
section
variable {A:Ad}{H H':Hp}{p:Addr}
theorem fB {a C dx:Addr}{fs:List (Str×V)}{o:HO}(kp:Keep H p H') (hp:H p=some o) (ho:∀C dx fs,o≠ .ins C dx fs) (h:H a=some (.ins C dx fs)):H' a=some (.ins C dx fs):=
 kp _ _ h (eX h hp fun e=>ho _ _ _ e.symm)
theorem fC {a:Addr}{xs:List V}{o:HO}(kp:Keep H p H') (hp:H p=some o) (ho:∀xs,o≠ .tup xs) (h:H a=some (.tup xs)):H' a=some (.tup xs):=
 kp _ _ h (eX h hp fun e=>ho _ e.symm)
theorem pO.keep {a:Addr}{m:Kh.Make}{o:HO}(kp:Keep H p H') (hp:H p=some o) (ho:∀C dx fs,o≠ .ins C dx fs) (h:pO A H a m):pO A H' a m:=by
 obtain⟨dx,h⟩:=h;exact⟨dx,fB kp hp ho h⟩
theorem fY.uT {a:Addr}{k:Kh.Key}{r:List Addr}(kp:Keep H p H') (hp:H p=some (.lst (rV r))) (hk:k.cuts≠[]) (h:fY A H a k):fY A H' a k:=by
 obtain⟨dx,l,h1,h2⟩:=h;exact⟨dx,l,fB kp hp (fun _ _ _ e=>nomatch e) h1,kp _ _ h2 (eX h2 hp fun e=>Y6 hk (HO.lst.inj e))⟩
theorem rG.uT {a:Addr}{c:Nat×List Nat}{r:List Addr}(kp:Keep H p H') (hp:H p=some (.lst (rV r))) (hk:c.2≠[]) (h:rG A H a c):rG A H' a c:=by
 obtain⟨dx,l,h1,h2⟩:=h;exact⟨dx,l,fB kp hp (fun _ _ _ e=>nomatch e) h1,kp _ _ h2 (eX h2 hp fun e=>Y6 hk (HO.lst.inj e))⟩
theorem fY.aeo {a:Addr}{k:Kh.Key}{kvs:List (L2.Key×V)}(kp:Keep H p H') (hp:H p=some (.dK kvs)) (h:fY A H a k):fY A H' a k:=by
 obtain⟨dx,l,h1,h2⟩:=h;exact⟨dx,l,fB kp hp (fun _ _ _ e=>nomatch e) h1,kp _ _ h2 (eX h2 hp fun e=>nomatch e)⟩
theorem rG.aeo {a:Addr}{c:Nat×List Nat}{kvs:List (L2.Key×V)}(kp:Keep H p H') (hp:H p=some (.dK kvs)) (h:rG A H a c):rG A H' a c:=by
 obtain⟨dx,l,h1,h2⟩:=h;exact⟨dx,l,fB kp hp (fun _ _ _ e=>nomatch e) h1,kp _ _ h2 (eX h2 hp fun e=>nomatch e)⟩
end
theorem Va {m:Kh.Make}(hm:m.ok=true){k:Kh.Key}(hk:Kh.Key.shaped m k=true):k.cuts≠[]∧k.cuts.length=m.n∧m.n≤7∧(∀c∈k.cuts,c<10)∧k.grooves<2^26:=by
 have e:Kh.Key.shaped m k=_:=Kd.YD;rw[e,Bool.and_eq_true,Bool.and_eq_true]at hk;have h1:=of_decide_eq_true hk.1;unfold Kh.Make.ok Kh.within at hm;simp only[Bool.and_eq_true,decide_eq_true_iff]at hm;refine⟨fun e=>?_,h1,hm.1.2,fun c mc=>?_,of_decide_eq_true hk.2.2⟩
 ·rw[e]at h1
  have:=hm.1.1;rw[←h1]at this;exact absurd this (by decide)
 ·have:=of_decide_eq_true (List.all_eq_true.mp hk.2.1 c mc)
  have:=hm.2.1.2;omega
theorem Vb {m:Kh.Make}(hm:m.ok=true){c:Nat×List Nat}(h32:∀s∈c.2,s<2^32) (hk:Kh.Cyl.ok m (Kd.fX c)=true):c.2≠[]∧c.2.length=m.n∧c.1<2^26:=by
 unfold Kh.Make.ok Kh.within at hm;simp only[Bool.and_eq_true,decide_eq_true_iff]at hm;have e:Kh.Cyl.ok m (Kd.fX c)=_:=Kd.YC h32 (by have:=hm.2.1.2;omega);rw[e,Bool.and_eq_true,Bool.and_eq_true]at hk;have h1:=of_decide_eq_true hk.1;refine⟨fun e=>?_,h1,of_decide_eq_true hk.2.2⟩;rw[e]at h1;have:=hm.1.1;rw[←h1]at this;exact absurd this (by decide)
section
variable {A:Ad}{H:Hp}{a:Addr}{z:lM}{h:Kh.House}{cb:List (Nat×List Nat)}{hg:List (Nat×Nat)}
theorem bh.Vc (I:Kd.bV h cb hg){i:Nat}{k:Kh.Key}(e:h.keys[i]?=some k):k.cuts≠[]:=(Va I.made (I.keys k (List.mem_of_getElem? e))).1
theorem bh.Vd (I:Kd.bV h cb hg){i:Nat}{c:Nat×List Nat}(e:cb[i]?=some c):c.2≠[]:=(Vb I.made (I.zT c (List.mem_of_getElem? e)).2 (I.zT c (List.mem_of_getElem? e)).1).1
theorem nd4 {a b c d:Addr}(h:[a,b,c,d].Nodup):a≠b∧a≠c∧a≠d∧b≠c∧b≠d∧c≠d:=by
 simp only[List.nodup_cons,List.mem_cons,List.not_mem_nil,or_false,not_or,List.nodup_nil,and_true,not_false_eq_true]at h;exact⟨h.1.1,h.1.2.1,h.1.2.2,h.2.1.1,h.2.1.2,h.2.2⟩
theorem cX {α:Type}{l:List α}{y:α}{i:Nat}{x:α}(h:(l++[y])[i]?=some x):(i<l.length∧l[i]?=some x)∨(i=l.length∧y=x):=by
 by_cases c:i<l.length
 ·rw[List.getElem?_append_left c]at h
  exact .inl ⟨c,h⟩
 ·rw[List.getElem?_append_right (by omega)]at h
  by_cases e:i=l.length
  ·rw[e,Nat.sub_self]at h
   exact .inr ⟨e,Option.some.inj h⟩
  ·rw[List.getElem?_eq_none (by rw[List.length_singleton];omega)]at h
   cases h
theorem bh.aiV (X:bh A H a z h cb hg) (I:Kd.bV h cb hg){x:Addr}{k:Kh.Key}(hx:fY A H x k) (hk:k.cuts≠[]):
  bh A (upd H z.aK (.lst (rV z.ks++[.ref x]))) a {z with ks:=z.ks++[x]} {h with keys:=h.keys++[k],hooks:=h.hooks++[none]} cb hg:=by
 have kp:Keep H z.aK (upd H z.aK (.lst (rV z.ks++[.ref x]))):=cC;obtain⟨n1,n2,n3,n4,n5,n6⟩:=nd4 X.nd;refine⟨fB kp X.iW (fun _ _ _ e=>nomatch e) X.ins,X.mak.keep kp X.iW (fun _ _ _ e=>nomatch e),?_,?_,fun i y k' e1 e2=>?_,kp _ _ X.jw n1.symm,X.nu,fun i y c e1 e2=>(X.cyls i y c e1 e2).uT kp X.iW (bh.Vd I e2),
  kp _ _ X.gA n2.symm,X.mD,fun i y c e1 e2=>fC kp X.iW (fun _ e=>nomatch e) (X.doors i y c e1 e2),kp _ _ X.fL n3.symm,X.jT,fun i y c e1 e2=>fC kp X.iW (fun _ e=>nomatch e) (X.sides i y c e1 e2),kp _ _ X.hang (eX X.hang X.iW fun e=>nomatch e),X.nd⟩
 ·rw[aq]
  show some (HO.lst (rV z.ks++[.ref x]))=some (.lst (rV (z.ks++[x])));rw[show rV (z.ks++[x])=rV z.ks++[.ref x]from List.map_append ..]
 ·show(z.ks++[x]).length=(h.keys++[k]).length
  rw[List.length_append,List.length_append,X.oZ];rfl
 ·have e1:(z.ks++[x])[i]?=some y:=e1
  have e2:(h.keys++[k])[i]?=some k':=e2;rcases cX e1 with⟨q1,q2⟩|⟨q1,q2⟩
  ·rcases cX e2 with⟨p1,p2⟩|⟨p1,p2⟩
   ·exact(X.keys i y k' q2 p2).uT kp X.iW (bh.Vc I p2)
   ·rw[X.oZ]at q1
    omega
  ·rcases cX e2 with⟨p1,p2⟩|⟨p1,p2⟩
   ·rw[X.oZ]at q1
    omega
   ·subst q2 p2
    exact hx.uT kp X.iW hk
theorem bh.aiW (X:bh A H a z h cb hg) (I:Kd.bV h cb hg){x:Addr}{c:Nat×List Nat}(hx:rG A H x c) (hk:c.2≠[]):
  bh A (upd H z.aC (.lst (rV z.cs++[.ref x]))) a {z with cs:=z.cs++[x]} {h with cyls:=h.cyls++[Kd.fX c]} (cb++[c]) hg:=by
 have kp:Keep H z.aC (upd H z.aC (.lst (rV z.cs++[.ref x]))):=cC;obtain⟨n1,n2,n3,n4,n5,n6⟩:=nd4 X.nd;refine⟨fB kp X.jw (fun _ _ _ e=>nomatch e) X.ins,X.mak.keep kp X.jw (fun _ _ _ e=>nomatch e),kp _ _ X.iW n1,X.oZ,fun i y c e1 e2=>(X.keys i y c e1 e2).uT kp X.jw (bh.Vc I e2),?_,?_,fun i y k' e1 e2=>?_,
  kp _ _ X.gA n4.symm,X.mD,fun i y c e1 e2=>fC kp X.jw (fun _ e=>nomatch e) (X.doors i y c e1 e2),kp _ _ X.fL n5.symm,X.jT,fun i y c e1 e2=>fC kp X.jw (fun _ e=>nomatch e) (X.sides i y c e1 e2),kp _ _ X.hang (eX X.hang X.jw fun e=>nomatch e),X.nd⟩
 ·rw[aq]
  show some (HO.lst (rV z.cs++[.ref x]))=some (.lst (rV (z.cs++[x])));rw[show rV (z.cs++[x])=rV z.cs++[.ref x]from List.map_append ..]
 ·show(z.cs++[x]).length=(cb++[c]).length
  rw[List.length_append,List.length_append,X.nu];rfl
 ·have e1:(z.cs++[x])[i]?=some y:=e1
  rcases cX e1 with⟨q1,q2⟩|⟨q1,q2⟩
  ·rcases cX e2 with⟨p1,p2⟩|⟨p1,p2⟩
   ·exact(X.cyls i y k' q2 p2).uT kp X.jw (bh.Vd I p2)
   ·rw[X.nu]at q1
    omega
  ·rcases cX e2 with⟨p1,p2⟩|⟨p1,p2⟩
   ·rw[X.nu]at q1
    omega
   ·subst q2 p2
    exact hx.uT kp X.jw hk
theorem bh.acK (X:bh A H a z h cb hg){hk:List (Option Nat)}{hg':List (Nat×Nat)}:
  bh A (upd H z.aG (.dK (uo hg'))) a z {h with hooks:=hk} cb hg':=by
 have kp:Keep H z.aG (upd H z.aG (.dK (uo hg'))):=cC;have nl:∀{p:Addr}{xs:List V},H p=some (.lst xs)→p≠z.aG:=fun e=>eX e X.hang fun q=>nomatch q
 exact⟨fB kp X.hang (fun _ _ _ e=>nomatch e) X.ins,X.mak.keep kp X.hang (fun _ _ _ e=>nomatch e),kp _ _ X.iW (nl X.iW),X.oZ,fun i y c e1 e2=>(X.keys i y c e1 e2).aeo kp X.hang,kp _ _ X.jw (nl X.jw),X.nu,fun i y c e1 e2=>(X.cyls i y c e1 e2).aeo kp X.hang,
  kp _ _ X.gA (nl X.gA),X.mD,fun i y c e1 e2=>fC kp X.hang (fun _ e=>nomatch e) (X.doors i y c e1 e2),kp _ _ X.fL (nl X.fL),X.jT,fun i y c e1 e2=>fC kp X.hang (fun _ e=>nomatch e) (X.sides i y c e1 e2),aq,X.nd⟩
theorem bh.ahD (X:bh A H a z h cb hg) (I:Kd.bV h cb hg){s:Nat}{t:Addr}{y:Kh.Side}(hs:s<2*h.doors.length) (ht:Sg H t y):
  bh A (upd H z.aS (.lst ((rV z.ss).set s (.ref t)))) a {z with ss:=z.ss.set s t} (Kd.wL h s y) cb hg:=by
 have kp:Keep H z.aS (upd H z.aS (.lst ((rV z.ss).set s (.ref t)))):=cC;obtain⟨n1,n2,n3,n4,n5,n6⟩:=nd4 X.nd;refine⟨fB kp X.fL (fun _ _ _ e=>nomatch e) X.ins,X.mak.keep kp X.fL (fun _ _ _ e=>nomatch e),kp _ _ X.iW n3,X.oZ,fun i y c e1 e2=>(X.keys i y c e1 e2).uT kp X.fL (bh.Vc I e2),kp _ _ X.jw n5,X.nu,fun i y c e1 e2=>(X.cyls i y c e1 e2).uT kp X.fL (bh.Vd I e2),
  kp _ _ X.gA n6,?_,fun i x d e1 e2=>?_,?_,?_,fun j x w e1 e2=>?_,kp _ _ X.hang (eX X.hang X.fL fun e=>nomatch e),X.nd⟩
 ·rw[Kd.Gf];exact X.mD
 ·rw[Kd.Cz]at e2
  cases q:h.doors[i]? with
  |none=>rw[q]at e2;cases e2
  |some d0=>
   rw[q]at e2;have e3:(if s/2=i then(if s%2=0 then{d0 with sa:=y}else{d0 with sb:=y})else d0)=d:=Option.some.inj e2;have k:=fC kp X.fL (fun _ e=>nomatch e) (X.doors i x d0 e1 q);rw[k,←e3];by_cases c1:s/2=i<;>by_cases c2:s%2=0<;>simp[c1,c2]
 ·rw[aq]
  show some (HO.lst ((rV z.ss).set s (.ref t)))=some (.lst (rV (z.ss.set s t)));rw[show rV (z.ss.set s t)=(rV z.ss).set s (.ref t)from List.map_set ..]
 ·show(z.ss.set s t).length=2*(Kd.wL h s y).doors.length
  rw[List.length_set,Kd.Gf];exact X.jT
 ·have e1:(z.ss.set s t)[j]?=some x:=e1
  rw[Kd.ZP h y hs]at e2;by_cases c:j=s
  ·subst c
   rw[List.getElem?_set_self (by rw[X.jT];exact hs)]at e1;rw[if_pos rfl]at e2;cases e1;cases e2;exact fC kp X.fL (fun _ e=>nomatch e) ht
  ·rw[List.getElem?_set_ne (fun q=>c q.symm)]at e1
   rw[if_neg c]at e2;exact fC kp X.fL (fun _ e=>nomatch e) (X.sides j x w e1 e2)
theorem bh.ahE (X:bh A H a z h cb hg) (I:Kd.bV h cb hg){e t u:Addr}{d:Kh.Door}(he:H e=some (.tup [.int d.a, .int d.b])) (ht:Sg H t d.sa) (hu:Sg H u d.sb):
  bh A (upd (upd (upd H z.aD (.lst (rV z.ds++[.ref e]))) z.aS (.lst (rV z.ss++[.ref t]))) z.aS (.lst (rV z.ss++[.ref t]++[.ref u]))) a {z with ds:=z.ds++[e],ss:=z.ss++[t]++[u]} {h with doors:=h.doors++[d]} cb hg:=by
 rw[cU];obtain⟨n1,n2,n3,n4,n5,n6⟩:=nd4 X.nd;have O8:Keep H z.aD (upd H z.aD (.lst (rV z.ds++[.ref e]))):=cC;have hS:upd H z.aD (.lst (rV z.ds++[.ref e])) z.aS=some (.lst (rV z.ss)):=O8 _ _ X.fL n6.symm;generalize hH1:upd H z.aD (.lst (rV z.ds++[.ref e]))=H1 at O8 hS⊢;have Rj:Keep H1 z.aS (upd H1 z.aS (.lst (rV z.ss++[.ref t]++[.ref u]))):=cC;have ki:∀{q C dx:Addr}{fs:List (Str×V)},H q=some (.ins C dx fs)→(upd H1 z.aS (.lst (rV z.ss++[.ref t]++[.ref u]))) q=some (.ins C dx fs):=fun g=>fB Rj hS (fun _ _ _ e=>nomatch e) (fB O8 X.gA (fun _ _ _ e=>nomatch e) g)
 have kt:∀{q:Addr}{xs:List V},H q=some (.tup xs)→(upd H1 z.aS (.lst (rV z.ss++[.ref t]++[.ref u]))) q=some (.tup xs):=fun g=>fC Rj hS (fun _ e=>nomatch e) (fC O8 X.gA (fun _ e=>nomatch e) g)
 refine⟨ki X.ins,(X.mak.keep O8 X.gA (fun _ _ _ e=>nomatch e)).keep Rj hS (fun _ _ _ e=>nomatch e),Rj _ _ (O8 _ _ X.iW n2) n3,X.oZ,fun i y c e1 e2=>((X.keys i y c e1 e2).uT O8 X.gA (bh.Vc I e2)).uT Rj hS (bh.Vc I e2),
  Rj _ _ (O8 _ _ X.jw n4) n5,X.nu,fun i y c e1 e2=>((X.cyls i y c e1 e2).uT O8 X.gA (bh.Vd I e2)).uT Rj hS (bh.Vd I e2),
  ?_,?_,fun i x d' e1 e2=>?_,?_,?_,fun j x w e1 e2=>?_,Rj _ _ (O8 _ _ X.hang (eX X.hang X.gA fun e=>nomatch e)) (eX X.hang X.fL fun e=>nomatch e),X.nd⟩
 ·refine Rj _ _ ?_ n6
  rw[←hH1,aq];show some (HO.lst (rV z.ds++[.ref e]))=some (.lst (rV (z.ds++[e])));rw[show rV (z.ds++[e])=rV z.ds++[.ref e]from List.map_append ..]
 ·show(z.ds++[e]).length=(h.doors++[d]).length
  rw[List.length_append,List.length_append,X.mD];rfl
 ·have e1:(z.ds++[e])[i]?=some x:=e1
  have e2:(h.doors++[d])[i]?=some d':=e2;rcases cX e1 with⟨q1,q2⟩|⟨q1,q2⟩
  ·rcases cX e2 with⟨p1,p2⟩|⟨p1,p2⟩
   ·exact kt (X.doors i x d' q2 p2)
   ·rw[X.mD]at q1
    omega
  ·rcases cX e2 with⟨p1,p2⟩|⟨p1,p2⟩
   ·rw[X.mD]at q1
    omega
   ·subst q2 p2
    exact kt he
 ·rw[aq]
  show some (HO.lst (rV z.ss++[.ref t]++[.ref u]))=some (.lst (rV (z.ss++[t]++[u])));rw[show rV (z.ss++[t]++[u])=rV (z.ss++[t])++[.ref u]from List.map_append ..,show rV (z.ss++[t])=rV z.ss++[.ref t]from List.map_append ..]
 ·show(z.ss++[t]++[u]).length=2*(h.doors++[d]).length
  rw[List.length_append,List.length_append,List.length_append,X.jT];simp;omega
 ·have e1:(z.ss++[t]++[u])[j]?=some x:=e1
  rw[Kd.ZQ]at e2;rcases cX e1 with⟨q1,q2⟩|⟨q1,q2⟩
  ·rcases cX q2 with⟨p1,p2⟩|⟨p1,p2⟩
   ·rw[X.jT]at p1
    rw[if_pos p1]at e2;exact kt (X.sides j x w p2 e2)
   ·rw[X.jT]at p1
    rw[if_neg (by omega),if_pos p1]at e2;cases e2;subst p2;exact kt ht
  ·rw[List.length_append,X.jT,List.length_singleton]at q1
   rw[if_neg (by omega),if_neg (by omega),if_pos q1]at e2;cases e2;subst q2;exact kt hu
end
end Kq
end
section
namespace Kq
open PySem PySem.Spec PyProof.Rows L2 Hk
section
variable {P:Program}{w:World}{K:PySem.W.Frag}{mg:Str→Option Value}{base:Heap}{A:Ad}
def Xe (A:Ad):Sp:=fun vs H Q _=>∃(p dx:Addr) (x0 x1 x2 x3 x4 x5:V),vs=[.ref p,x0,x1,x2,x3,x4,x5]∧H p=some (.ins A.lZ dx [])∧Q .non (upd H p (.ins A.lZ dx (Mi x0 x1 x2 x3 x4 x5)))
theorem Xf (T:Txt K mg A):bK P w K mg base cV 1 A.tu A.qe ["self","chambers","depths","step","pin","kinds","run"] (Xe A):=by
 refine T.xg.ok WK (fun vs H Q E h=>?_) (fun cdv Ar outer s H vs Q E hr h=>?_)
 ·obtain⟨p,dx,x0,x1,x2,x3,x4,x5,rfl,_⟩:=h
  rfl
 ·obtain⟨p,dx,x0,x1,x2,x3,x4,x5,rfl,hp,k⟩:=h
  have c:=T.xG.cl;refine⟨_,(au (dX (pv 0) (pv 1) rfl)
   (au (dX (pv 0) (pv 2) rfl)
   (au (dX (pv 0) (pv 3) rfl)
   (au (dX (pv 0) (pv 4) rfl)
   (au (dX (pv 0) (pv 5) rfl)
   (aB (dX (pv 0) (pv 6) rfl))))))),?_⟩
  refine lU (aj rfl) (aj rfl) hp c T.jg (by show 0<1000;decide) ?_;refine lU (aj rfl) (aj rfl) aq c T.gK (by show 1<1000;decide) ?_;refine lU (aj rfl) (aj rfl) aq c T.Mq (by show 2<1000;decide) ?_;refine lU (aj rfl) (aj rfl) aq c T.GR (by show 3<1000;decide) ?_;refine lU (aj rfl) (aj rfl) aq c T.Jj (by show 4<1000;decide) ?_;refine HD (aj rfl) (aj rfl) aq c T.QC (by show 5<1000;decide) ?_;rw[cU,cU,cU,cU,cU];exact k
def aaD (A:Ad):Sp:=fun vs H Q _=>∃(p dx:Addr) (x0 x1:V),vs=[.ref p,x0,x1]∧H p=some (.ins A.DG dx [])∧Q .non (upd H p (.ins A.DG dx (aak x0 x1)))
theorem aaE (T:Txt K mg A):bK P w K mg base cV 1 A.vB A.tD ["self","grooves","cuts"] (aaD A):=by
 refine T.zE.ok aaf (fun vs H Q E h=>?_) (fun cdv Ar outer s H vs Q E hr h=>?_)
 ·obtain⟨p,dx,x0,x1,rfl,_⟩:=h
  rfl
 ·obtain⟨p,dx,x0,x1,rfl,hp,k⟩:=h
  have c:=T.JZ.cl;refine⟨_,(au (dX (pv 0) (pv 1) rfl)
   (aB (dX (pv 0) (pv 2) rfl))),?_⟩
  refine lU (aj rfl) (aj rfl) hp c T.yQ (by show 0<1000;decide) ?_;refine HD (aj rfl) (aj rfl) aq c T.zF (by show 1<1000;decide) ?_;rw[cU];exact k
def MF (A:Ad):Sp:=fun vs H Q _=>∃(p dx:Addr) (x0 x1:V),vs=[.ref p,x0,x1]∧H p=some (.ins A.jQ dx [])∧Q .non (upd H p (.ins A.jQ dx (Dm x0 x1)))
theorem MJ (T:Txt K mg A):bK P w K mg base cV 1 A.j9 A.jM ["self","wards","depth_sets"] (MF A):=by
 refine T.pD.ok Mg (fun vs H Q E h=>?_) (fun cdv Ar outer s H vs Q E hr h=>?_)
 ·obtain⟨p,dx,x0,x1,rfl,_⟩:=h
  rfl
 ·obtain⟨p,dx,x0,x1,rfl,hp,k⟩:=h
  have c:=T.oW.cl;refine⟨_,(au (dX (pv 0) (pv 1) rfl)
   (aB (dX (pv 0) (pv 2) rfl))),?_⟩
  refine lU (aj rfl) (aj rfl) hp c T.nR (by show 0<1000;decide) ?_;refine HD (aj rfl) (aj rfl) aq c T.iU (by show 1<1000;decide) ?_;rw[cU];exact k
def Xg (A:Ad):Sp:=fun vs H Q _=>∃(p dx:Addr),vs=[.ref p]∧H p=some (.ins A.gw dx [])∧Q .non (upd H p (.ins A.gw dx (jL .non)))
theorem Xh (T:Txt K mg A):bK P w K mg base cV 1 A.tG A.qm ["self"] (Xg A):=by
 refine T.xq.ok WL (fun vs H Q E h=>?_) (fun cdv Ar outer s H vs Q E hr h=>?_)
 ·obtain⟨p,dx,rfl,_⟩:=h
  rfl
 ·obtain⟨p,dx,rfl,hp,k⟩:=h
  refine⟨_,(aB (dX (pv 0) BW rfl)),?_⟩;exact HD (fun Q q=>q) (aj rfl) hp T.DX.cl T.ni (by show 0<1000;decide) k
structure af8 (A:Ad) (H:Hp) (p dx:Addr) (m r:V) (aK aC aD aS aG:Addr) (H':Hp):Prop where
 ins:H' p=some (.ins A.cR dx (Ov m r (.ref aK) (.ref aC) (.ref aD) (.ref aS) (.ref aG)))
 lK:H' aK=some (.lst [])
 lC:H' aC=some (.lst [])
 lD:H' aD=some (.lst [])
 lS:H' aS=some (.lst [])
 lG:H' aG=some (.dK [])
 nd:[aK,aC,aD,aS].Nodup
 free:∀b∈[aK,aC,aD,aS,aG],H b=none
 keep:Keep H p H'
def Ve (A:Ad):Sp:=fun vs H Q _=>∃(p dx:Addr) (m r:V),vs=[.ref p,m,r]∧H p=some (.ins A.cR dx [])∧∀H' aK aC aD aS aG,af8 A H p dx m r aK aC aD aS aG H'→Q .non H'
theorem Bu {H H1:Hp}{p l C dx:Addr}{fs fs':List (Str×V)}{o:HO}(kp:Keep H p H1) (hp:H1 p=some (.ins C dx fs)) (hl:H1 l=none):
  Keep H p (upd (upd H1 l o) p (.ins C dx fs'))∧(upd (upd H1 l o) p (.ins C dx fs')) l=some o∧l≠p∧(∀b u,H1 b=some u→b≠p→(upd (upd H1 l o) p (.ins C dx fs')) b=some u∧l≠b)∧(∀q,H q=some (.ins C dx [])→q=p→H l=none):=by
 have nlp:p≠l:=aQ hp hl;refine⟨fun b u e n=>?_,?_,nlp.symm,fun b u e n=>⟨?_,(aQ e hl).symm⟩,fun q hq e=>?_⟩
 ·rw[aJ n,aJ (aQ (kp b u e n) hl)]
  exact kp b u e n
 ·rw[aJ nlp.symm,aq]
 ·rw[aJ n,aJ (aQ e hl)]
  exact e
 ·subst e
  cases z:H l with
  |none=>rfl
  |some u=>
   have:=kp l u z nlp.symm;rw[this]at hl;cases hl
theorem Vf (T:Txt K mg A):bK P w K mg base cV 1 A.qj A.oH ["self","make","rooms"] (Ve A):=by
 refine T.vg.ok Uw (fun vs H Q E h=>?_) (fun cdv Ar outer s H vs Q E hr h=>?_)
 ·obtain⟨p,dx,m,r,rfl,_⟩:=h
  rfl
 ·obtain⟨p,dx,m,r,rfl,hp,k⟩:=h
  have c:=T.d9.cl;refine⟨_,(au (dX (pv 0) (pv 1) rfl)
   (au (dX (pv 0) (pv 2) rfl)
   (au (dX (pv 0) (bL ao) rfl)
   (au (dX (pv 0) (bL ao) rfl)
   (au (dX (pv 0) (bL ao) rfl)
   (au (dX (pv 0) (bL ao) rfl)
   (aB (dX (pv 0) afy rfl)))))))),?_⟩
  refine lU (aj rfl) (aj rfl) hp c T.Aj (by show 0<1000;decide) ?_;refine lU (aj rfl) (aj rfl) aq c T.oX (by show 1<1000;decide) ?_;rw[cU];have kp0:Keep H p (upd H p (.ins A.cR dx (bF "rooms" r (bF "make" m [])))):=cC;have hp0:upd H p (.ins A.cR dx (bF "rooms" r (bF "make" m []))) p=some (.ins A.cR dx (bF "rooms" r (bF "make" m []))):=aq;generalize upd H p (.ins A.cR dx (bF "rooms" r (bF "make" m [])))=H0 at kp0 hp0⊢;refine⟨Nat.zero_le _,fun aK hK=>⟨_,rfl,p,_,dx,_,rfl,(aJ (aQ hp0 hK)).trans hp0,c,T.dN,(by show 2<1000;decide),?_⟩⟩;obtain⟨O8,eK,nK,m1,f1⟩:=Bu (o:= .lst []) (fs':=bF "told_keys" (.ref aK) (bF "rooms" r (bF "make" m []))) kp0 hp0 hK;have hp1:upd (upd H0 aK (.lst [])) p (.ins A.cR dx (bF "told_keys" (.ref aK) (bF "rooms" r (bF "make" m [])))) p=some _:=aq;generalize upd (upd H0 aK (.lst [])) p (.ins A.cR dx (bF "told_keys" (.ref aK) (bF "rooms" r (bF "make" m []))))=H1 at O8 eK m1 hp1⊢;refine⟨Nat.zero_le _,fun aC hC=>⟨_,rfl,p,_,dx,_,rfl,(aJ (aQ hp1 hC)).trans hp1,c,T.dO,(by show 3<1000;decide),?_⟩⟩;obtain⟨Rj,eC,nC,m2,f2⟩:=Bu (o:= .lst []) (fs':=bF "cylinders" (.ref aC) (bF "told_keys" (.ref aK) (bF "rooms" r (bF "make" m [])))) O8 hp1 hC;have hp2:upd (upd H1 aC (.lst [])) p (.ins A.cR dx (bF "cylinders" (.ref aC) (bF "told_keys" (.ref aK) (bF "rooms" r (bF "make" m []))))) p=some _:=aq;generalize upd (upd H1 aC (.lst [])) p (.ins A.cR dx (bF "cylinders" (.ref aC) (bF "told_keys" (.ref aK) (bF "rooms" r (bF "make" m [])))))=H2 at Rj eC m2 hp2⊢;refine⟨Nat.zero_le _,fun aD hD=>⟨_,rfl,p,_,dx,_,rfl,(aJ (aQ hp2 hD)).trans hp2,c,T.jt,(by show 4<1000;decide),?_⟩⟩;obtain⟨kp3,eD,nD,m3,f3⟩:=Bu (o:= .lst []) (fs':=bF "doors" (.ref aD) (bF "cylinders" (.ref aC) (bF "told_keys" (.ref aK) (bF "rooms" r (bF "make" m []))))) Rj hp2 hD;have hp3:upd (upd H2 aD (.lst [])) p (.ins A.cR dx (bF "doors" (.ref aD) (bF "cylinders" (.ref aC) (bF "told_keys" (.ref aK) (bF "rooms" r (bF "make" m [])))))) p=some _:=aq;generalize upd (upd H2 aD (.lst [])) p (.ins A.cR dx (bF "doors" (.ref aD) (bF "cylinders" (.ref aC) (bF "told_keys" (.ref aK) (bF "rooms" r (bF "make" m []))))))=H3 at kp3 eD m3 hp3⊢;refine⟨Nat.zero_le _,fun aS hS=>⟨_,rfl,p,_,dx,_,rfl,(aJ (aQ hp3 hS)).trans hp3,c,T.gM,(by show 5<1000;decide),?_⟩⟩;obtain⟨kp4,eS,nS,m4,f4⟩:=Bu (o:= .lst []) (fs':=bF "sides" (.ref aS) (bF "doors" (.ref aD) (bF "cylinders" (.ref aC) (bF "told_keys" (.ref aK) (bF "rooms" r (bF "make" m [])))))) kp3 hp3 hS;have hp4:upd (upd H3 aS (.lst [])) p (.ins A.cR dx (bF "sides" (.ref aS) (bF "doors" (.ref aD) (bF "cylinders" (.ref aC) (bF "told_keys" (.ref aK) (bF "rooms" r (bF "make" m []))))))) p=some _:=aq;generalize upd (upd H3 aS (.lst [])) p (.ins A.cR dx (bF "sides" (.ref aS) (bF "doors" (.ref aD) (bF "cylinders" (.ref aC) (bF "told_keys" (.ref aK) (bF "rooms" r (bF "make" m [])))))))=H4 at kp4 eS m4 hp4⊢;intro aG hG;refine⟨_,rfl,p,_,dx,_,rfl,(aJ (aQ hp4 hG)).trans hp4,c,T.gj,(by show 6<1000;decide),?_⟩;obtain⟨kp5,eG,nG,m5,f5⟩:=Bu (o:= .dK []) (fs':=bF "hanging" (.ref aG) (bF "sides" (.ref aS) (bF "doors" (.ref aD) (bF "cylinders" (.ref aC) (bF "told_keys" (.ref aK) (bF "rooms" r (bF "make" m []))))))) kp4 hp4 hG;have hp5:upd (upd H4 aG (.dK [])) p (.ins A.cR dx (bF "hanging" (.ref aG) (bF "sides" (.ref aS) (bF "doors" (.ref aD) (bF "cylinders" (.ref aC) (bF "told_keys" (.ref aK) (bF "rooms" r (bF "make" m [])))))))) p=some _:=aq;generalize upd (upd H4 aG (.dK [])) p (.ins A.cR dx (bF "hanging" (.ref aG) (bF "sides" (.ref aS) (bF "doors" (.ref aD) (bF "cylinders" (.ref aC) (bF "told_keys" (.ref aK) (bF "rooms" r (bF "make" m []))))))))=H5 at kp5 eG m5 hp5⊢;have eK2:=m2 _ _ eK nK;have eK3:=m3 _ _ eK2.1 nK;have eK4:=m4 _ _ eK3.1 nK;have eC3:=m3 _ _ eC nC;have eC4:=m4 _ _ eC3.1 nC;have eD4:=m4 _ _ eD nD;refine k H5 aK aC aD aS aG ⟨hp5,(m5 _ _ eK4.1 nK).1,(m5 _ _ eC4.1 nC).1,(m5 _ _ eD4.1 nD).1,(m5 _ _ eS nS).1,eG,?_,?_,kp5⟩
  ·have a1:=eK2.2
   have a2:=eK3.2;have a3:=eK4.2;have a4:=eC3.2;have a5:=eC4.2;have a6:=eD4.2;simp only[List.nodup_cons,List.mem_cons,List.not_mem_nil,or_false,not_or,List.nodup_nil,and_true,not_false_eq_true];exact⟨⟨a1.symm,a2.symm,a3.symm⟩,⟨a4.symm,a5.symm⟩,a6.symm⟩
  ·intro b hb
   simp only[List.mem_cons,List.not_mem_nil,or_false]at hb;rcases hb with rfl|rfl|rfl|rfl|rfl
   ·exact f1 _ hp rfl
   ·exact f2 _ hp rfl
   ·exact f3 _ hp rfl
   ·exact f4 _ hp rfl
   ·exact f5 _ hp rfl
end
end Kq
end
section
namespace Kq
open PySem PySem.Spec PyProof.Rows L2 Hk
def Ts (z:lM):List Addr:=[z.aK,z.aC,z.aD,z.aS,z.aG]
abbrev iV (l:List Int):List V:=l.map V.int
abbrev Done (A:Ad) (H:Hp) (a:Addr) (z:lM) (Q:VK) (h':Kh.House) (out:List Int):Prop:=∀H' l z' Xi hg',bh A H' a z' h' Xi hg'→Kd.bV h' Xi hg'→Ts z'=Ts z→(∀b o,H b=some o→b∉Ts z→H' b=some o)→H l=none→H' l=some (.lst (iV out))→Q (.ref l) H'
section
variable {A:Ad}{H H1:Hp}{a:Addr}{z:lM}{h:Kh.House}{cb:List (Nat×List Nat)}{hg:List (Nat×Nat)}{Q:VK}
theorem acL (X:bh A H a z h cb hg) (I:Kd.bV h cb hg) (s1:Same H H1){out:List Int}(d:Done A H a z Q h out){l:Addr}(hl:H1 l=none):Q (.ref l) (upd H1 l (.lst (iV out))):=
 d _ l z cb hg ((X.same s1).same (aZ hl)) I rfl (fun b o e _=>aZ hl _ _ (s1 _ _ e)) (s1.free hl) aq
theorem refuse (X:bh A H a z h cb hg) (I:Kd.bV h cb hg) (s1:Same H H1){v:Int}{te:TE}{D:Ends}{σ:L2.St}(hv:Ev te σ H1 (.int v)) (d:Done A H a z D.rt h [v]):Iv (SJ (gB te pR)) D σ H1:=
 hv _ ⟨by show 1≤sizeLine;decide,fun l hl=>acL X I s1 d hl⟩
end
section
variable {P:Program}{w:World}{K:PySem.W.Frag}{mg:Str→Option Value}{base:Heap}{A:Ad}
theorem b2 {p q:Prop} [Decidable p] [Decidable q] (h:p↔q):decide p=decide q:=by
 rw[Bool.eq_iff_iff,decide_eq_true_iff,decide_eq_true_iff];exact h
def Vg:Sp:=fun vs H Q _=>∃(t:Addr) (k c:Nat),vs=[.ref t]∧H t=some (.tup [.int k, .int c])∧Q (.bl ((KhRooms.sideOf k c).isSome)) H
theorem jU {ta tb:TE}{σ:L2.St}{H:Hp}{t:Addr}{xs:List V}{j:Nat}{v:V}(ha:Ev ta σ H (.ref t)) (hb:Ev tb σ H (.int (j:Int))) (ht:H t=some (.tup xs)) (hv:xs[j]?=some v):Ev (rz (rIx K) ta tb) σ H v:=
 fun Q q=>ha _ (hb _ (.inr (.inl ⟨t,xs,_,v,rfl,rfl, .inl (.inl ht),S6 hv,q⟩)))
theorem bI {ta tb:TE}{σ:L2.St}{H:Hp}{t:Addr}{xs:List V}{j:Nat}{v:V}(ha:Ev ta σ H (.ref t)) (hb:Ev tb σ H (.int (j:Int))) (ht:dR K H t xs) (hv:xs[j]?=some v):Ev (rz (rIx K) ta tb) σ H v:=
 fun Q q=>ha _ (hb _ (.inl ⟨t,xs,_,v,rfl,rfl,ht,S6 hv,q⟩))
theorem aV {σ:L2.St}{H:Hp}{v:V}:Ev (tC v) σ H v:=fun Q q=>q
theorem dh {ta tb:TE}{σ:L2.St}{H:Hp}{x y:Nat}(ha:Ev ta σ H (.int (x:Int))) (hb:Ev tb σ H (.int (y:Int))):Ev (rz rEq ta tb) σ H (.bl (decide (x=y))):=
 fun Q q=>ha _ (hb _ ⟨rfl,by rw[vEq];exact q⟩)
theorem HY {ta tb:TE}{σ:L2.St}{H:Hp}{x y:Nat}(ha:Ev ta σ H (.int (x:Int))) (hb:Ev tb σ H (.int (y:Int))):Ev (rz rNe ta tb) σ H (.bl (!decide (x=y))):=
 fun Q q=>ha _ (hb _ ⟨rfl,by rw[vEq];exact q⟩)
theorem MK {ta tb:TE}{σ:L2.St}{H:Hp}{x y:Nat}(ha:Ev ta σ H (.int (x:Int))) (hb:Ev tb σ H (.int (y:Int))):Ev (rz (za fun i j=> .bl (decide (i<j))) ta tb) σ H (.bl (decide (x<y))):=
 fun Q q=>ha _ (hb _ ⟨_,_,rfl,rfl,by
  show Q (V.bl (decide ((x:Int)<(y:Int)))) H;rw[iLt];exact q⟩)
theorem aaF {ta tb:TE}{σ:L2.St}{H:Hp}{x y:Nat}(ha:Ev ta σ H (.int (x:Int))) (hb:Ev tb σ H (.int (y:Int))):Ev (rz (za fun i j=> .bl (decide (j<i))) ta tb) σ H (.bl (decide (y<x))):=
 fun Q q=>ha _ (hb _ ⟨_,_,rfl,rfl,by
  show Q (V.bl (decide ((y:Int)<(x:Int)))) H;rw[iLt];exact q⟩)
theorem aiX {ta tb:TE}{σ:L2.St}{H:Hp}{x y:Nat}(ha:Ev ta σ H (.int (x:Int))) (hb:Ev tb σ H (.int (y:Int))):Ev (rz (za fun i j=> .bl (decide (j≤i))) ta tb) σ H (.bl (decide (y≤x))):=
 fun Q q=>ha _ (hb _ ⟨_,_,rfl,rfl,by
  show Q (V.bl (decide ((y:Int)≤(x:Int)))) H;rw[iLe];exact q⟩)
theorem dH {ta:TE}{σ:L2.St}{H:Hp}{t:Addr}{xs:List V}(ha:Ev ta σ H (.ref t)) (ht:dR K H t xs):Ev (tCB (fun xs H Q=>∃x n,xs=[x]∧agG K x H n∧Q (.int n) H) (gB ta pR)) σ H (.int (xs.length:Int)):=
 fun Q q=>ha _ ⟨_,_,rfl, .inl ⟨_,ht,rfl⟩,q⟩
theorem yU (T:Txt K mg A):bK P w K mg base cV 1 A.uZ A.oJ ["side"] Vg:=by
 refine T.fG.fn.ok yp (fun vs H Q E h=>?_) (fun cdv Ar outer s H vs Q E hr h=>?_)
 ·obtain⟨t,k,c,rfl,_⟩:=h
  rfl
 ·obtain⟨t,k,c,rfl,ht,q⟩:=h
  refine⟨_,(au (bJ (i:=1) yp.nd rfl (by first|exact Or.inl rfl|exact Or.inr rfl) (bG bw (pv 0) aO (fun _ _=>rfl)))
   (au (bJ (i:=2) yp.nd rfl (by first|exact Or.inl rfl|exact Or.inr rfl) (bG bw (pv 0) aO (fun _ _=>rfl)))
   (au (bU (bM dW (pv 1) (aY (v:= .int 1) rfl T.HX ⟨_,rfl⟩) (bD _))
    (aB (aL Jq))
    bC)
   (aB (aL (o8 (adu (eY dW (pv 1) (aY (v:= .int 0) rfl T.ae8 ⟨_,rfl⟩) (bD _)) (uV (eY dW (pv 1) (aY (v:= .int 2) rfl T.aiT ⟨_,rfl⟩) (bD _)))) (uV (eY dW (pv 2) aO (bD _))))))))),?_⟩
  refine nj (jU (j:=0) (aj rfl) aV ht rfl) ?_;refine nj (jU (j:=1) (aj rfl) aV ht rfl) ?_;refine cD (Ev.cG (dh (x:=k) (y:=1) (aj rfl) aV)) (fun e=>?_) (fun e=>?_)
  ·have e:=of_decide_eq_true e
   subst e;exact q
  ·have e:=of_decide_eq_false e
   refine jx (Ev.and (Ev.or (dh (x:=k) (y:=0) (aj rfl) aV) (fun _=>dh (x:=k) (y:=2) (aj rfl) aV)) (fun _=>dh (x:=c) (y:=0) (aj rfl) aV)) ?_;have e2:((decide (k=0)||decide (k=2))&&decide (c=0))=(KhRooms.sideOf k c).isSome:=by
    unfold KhRooms.sideOf;by_cases c0:c=0
    ·by_cases k0:k=0
     ·simp[c0,k0]
     ·by_cases k2:k=2
      ·simp[c0,k2]
      ·simp[c0,k0,k2,e]
    ·simp[c0,e]
   rw[e2];exact q
def acM (A:Ad):Sp:=fun vs H Q _=>∃(a:Addr) (z:lM) (h:Kh.House) (cb:List (Nat×List Nat)) (hg:List (Nat×Nat)) (r:Nat),vs=[.ref a, .int r]∧bh A H a z h cb hg∧Q (.bl (decide (r<h.rooms))) H
theorem zJ (T:Txt K mg A):bK P w K mg base cV 1 A.Ds A.vH ["house","room"] (acM A):=by
 refine T.iC.fn.ok acv (fun vs H Q E h=>?_) (fun cdv Ar outer s H vs Q E hr h=>?_)
 ·obtain⟨a,z,h,cb,hg,r,rfl,_⟩:=h
  rfl
 ·obtain⟨a,z,h,cb,hg,r,rfl,X,q⟩:=h
  refine⟨_,(aB (aL (eY Fv (pv 1) (aN (pv 0) rfl) (bD _)))),?_⟩;exact jx (MK (aj rfl) (aW (aj rfl) X.ins T.d9.cl T.oX rfl)) q
def Rk (A:Ad):Sp:=fun vs H Q _=>∃(a:Addr) (z:lM) (h:Kh.House) (cb:List (Nat×List Nat)) (hg:List (Nat×Nat)) (r:Nat),vs=[.ref a, .int r]∧bh A H a z h cb hg∧Q (.bl (decide (r<h.keys.length))) H
theorem Fd (T:Txt K mg A):bK P w K mg base cV 1 A.tK A.mJ ["house","key"] (Rk A):=by
 refine T.gJ.fn.ok QX (fun vs H Q E h=>?_) (fun cdv Ar outer s H vs Q E hr h=>?_)
 ·obtain⟨a,z,h,cb,hg,r,rfl,_⟩:=h
  rfl
 ·obtain⟨a,z,h,cb,hg,r,rfl,X,q⟩:=h
  refine⟨_,(aB (aL (eY Fv (pv 1) (bH cA (by rfl) T.fK dG (ak (aN (pv 0) rfl) ao)) (bD _)))),?_⟩;refine jx (MK (aj rfl) (dH (aW (aj rfl) X.ins T.d9.cl T.dN rfl) (aU X.iW))) ?_;rw[List.length_map,X.oZ];exact q
def acN (A:Ad):Sp:=fun vs H Q _=>∃(a:Addr) (z:lM) (h:Kh.House) (cb:List (Nat×List Nat)) (hg:List (Nat×Nat)) (r:Nat),vs=[.ref a, .int r]∧bh A H a z h cb hg∧Q (.bl (decide (r<2*h.doors.length))) H
theorem QF (T:Txt K mg A):bK P w K mg base cV 1 A.Dt A.vI ["house","number"] (acN A):=by
 refine T.oV.fn.ok acw (fun vs H Q E h=>?_) (fun cdv Ar outer s H vs Q E hr h=>?_)
 ·obtain⟨a,z,h,cb,hg,r,rfl,_⟩:=h
  rfl
 ·obtain⟨a,z,h,cb,hg,r,rfl,X,q⟩:=h
  refine⟨_,(aB (aL (eY Fv (pv 1) (bH cA (by rfl) T.fK dG (ak (aN (pv 0) rfl) ao)) (bD _)))),?_⟩;refine jx (MK (aj rfl) (dH (aW (aj rfl) X.ins T.d9.cl T.gM rfl) (aU X.fL))) ?_;rw[List.length_map,X.jT];exact q
def J5 (A:Ad):Sp:=fun vs H Q _=>∃(a:Addr) (z:lM) (h:Kh.House) (cb:List (Nat×List Nat)) (hg:List (Nat×Nat)) (t:Addr) (k c:Nat),vs=[.ref a, .ref t]∧bh A H a z h cb hg∧H t=some (.tup [.int k, .int c])∧Q (.bl (decide (k=1)&&decide (cb.length≤c))) H
theorem rJ (T:Txt K mg A):bK P w K mg base cV 1 A.nF A.jj ["house","side"] (J5 A):=by
 refine T.cZ.fn.ok JQ (fun vs H Q E h=>?_) (fun cdv Ar outer s H vs Q E hr h=>?_)
 ·obtain⟨a,z,h,cb,hg,t,k,c,rfl,_⟩:=h
  rfl
 ·obtain⟨a,z,h,cb,hg,t,k,c,rfl,X,ht,q⟩:=h
  refine⟨_,(aB (aL (o8 (eY dW (bG bw (pv 1) aO (fun _ _=>rfl)) (aY (v:= .int 1) rfl T.HX ⟨_,rfl⟩) (bD _)) (uV (eY agE (bG bw (pv 1) aO (fun _ _=>rfl)) (bH cA (by rfl) T.fK dG (ak (aN (pv 0) rfl) ao)) (bD _)))))),?_⟩;refine jx (Ev.and (dh (x:=k) (y:=1) (jU (j:=0) (aj rfl) aV ht rfl) aV) (fun _=>aiX (x:=c) (jU (j:=1) (aj rfl) aV ht rfl) (dH (aW (aj rfl) X.ins T.d9.cl T.dO rfl) (aU X.jw)))) ?_;rw[List.length_map,X.nu];exact q
end
end Kq
end
section
namespace Kq
open PySem PySem.Spec PyProof.Rows L2 Hk
section
variable {K:PySem.W.Frag}{sp:Sp}{E:XK}{ta tb tc:TE}{σ:L2.St}{H:Hp}{x y c v:V}{u:TS}{D:Ends}
theorem Ia (ha:Ev ta σ H x) (h:∀Q:VK,Q v H→sp [x] H Q E):Ev (NP sp [] E (gB ta pR)) σ H v:=fun Q q=>ha _ (h Q q)
theorem gn (ha:Ev ta σ H x) (hb:Ev tb σ H y) (h:∀Q:VK,Q v H→sp [x,y] H Q E):Ev (NP sp [] E (gB ta (gB tb pR))) σ H v:=fun Q q=>ha _ (hb _ (h Q q))
theorem O9 (ha:Ev ta σ H x) (hb:Ev tb σ H y) (h:∀Q:VK,(∀H',Same H H'→Q v H')→sp [x,y] H Q E):Eg (NP sp [] E (gB ta (gB tb pR))) σ H v:=fun Q q=>ha _ (hb _ (h Q q))
theorem aaG {i j:Int}(ha:Ev ta σ H (.int i)) (hb:Ev tb σ H (.int j)):Ev (rz (za fun i j=> .int (i-j)) ta tb) σ H (.int (i-j)):=fun Q q=>ha _ (hb _ ⟨_,_,rfl,rfl,q⟩)
theorem Ef {l:Addr}{xs:List V}(ho:Ev ta σ H (.ref l)) (he:Ev tb σ H y) (hl:H l=some (.lst xs)) (hn:xs.length<sizeLine) (k:u D σ (upd H l (.lst (xs++[y])))):zf (Sw (tBM K "list" KY ta (gB tb pR))) u D σ H:=
 ho _ ⟨.inl ⟨rfl,_,dR.of hl⟩,he _ ⟨l,xs,y,rfl,rfl,hl,hn,k⟩⟩
theorem pP (he:Ev ta σ H y) (k:∀l,H l=none→D.rt (.ref l) (upd H l (.lst [y]))):Iv (SJ (gB ta pR)) D σ H:=he _ ⟨by show 1≤sizeLine;decide,k⟩
end
section
variable {A:Ad}{H H2:Hp}{a:Addr}{z z':lM}{h':Kh.House}{Xi:List (Nat×List Nat)}{hg':List (Nat×Nat)}{Q:VK}
theorem Bv {out:List Int}(d:Done A H a z Q h' out) (X:bh A H2 a z' h' Xi hg') (I:Kd.bV h' Xi hg') (hz:Ts z'=Ts z) (kp:∀b o,H b=some o→b∉Ts z→H2 b=some o) (nn:∀b,H2 b=none→H b=none){l:Addr}(hl:H2 l=none):Q (.ref l) (upd H2 l (.lst (iV out))):=
 d _ l z' Xi hg' (X.same (aZ hl)) I hz (fun b o e n=>aZ hl _ _ (kp b o e n)) (nn l hl) aq
theorem xO {H H1:Hp}{p:Addr}{o:HO}(s:Same H H1) (b:Addr) (e:upd H1 p o b=none):H b=none:=by
 by_cases c:b=p
 ·subst c
  rw[aq]at e;cases e
 ·rw[aJ c]at e
  exact s.free e
end
theorem G7 {n m:Nat}(h:n≤m) (hm:m<16777216):n<sizeLine:=Nat.lt_of_le_of_lt h hm
section
variable {P:Program}{w:World}{K:PySem.W.Frag}{mg:Str→Option Value}{base:Heap}{A:Ad}
def acO (A:Ad):Sp:=fun vs H Q _=>∃(a x:Addr) (z:lM) (h:Kh.House) (cb:List (Nat×List Nat)) (hg:List (Nat×Nat)) (k:Kh.Key) (r:Kh.House×KhRooms.Answer),vs=[.ref a, .ref x]∧bh A H a z h cb hg∧Kd.bV h cb hg∧fY A H x k∧k.cuts.length≤16∧
 KhRooms.made h (.key k.grooves k.cuts)=some r∧Done A H a z Q r.1 (HouseNeutral.told r.2)
theorem acP (T:Txt K mg A):bK P w K mg base cV 2 A.Dq A.vG ["house","key"] (acO A):=by
 refine T.uM.fn.ok acu (fun vs H Q E h=>?_) (fun cdv Ar outer s H vs Q E hr h=>?_)
 ·obtain⟨a,x,z,h,cb,hg,k,r,rfl,_⟩:=h
  rfl
 ·obtain⟨a,x,z,h,cb,hg,k,r,rfl,X,I,hx,h16,hm,d⟩:=h
  have c:=T.d9.cl;refine⟨_,(au (bU (gq (dj (aH (aen T) (hr.mono (by decide)) rfl T.xM.mg T.xM.fn.kp (af4 T) .nil aP (ak (aN (pv 0) rfl) (ak (pv 1) ao)))))
    (aB (aL (bL (ak (aY (v:= .int (-1)) rfl T.rF ⟨_,rfl⟩) ao))))
    bC)
   (au (bU (bM dW (bH cA (by rfl) T.fK dG (ak (aN (pv 0) rfl) ao)) (aY (v:= .int 8) rfl T.Mr ⟨_,rfl⟩) (bD _))
    (aB (aL (bL (ak (aY (v:= .int (-2)) rfl T.Sd ⟨_,rfl⟩) ao))))
    bC)
   (au (iH (rA PySem.F.plainAttrs_list PySem.F.slot_list_append PySem.F.type_list_append fW (aN (pv 0) rfl) (ak (pv 1) ao)))
   (aB (aL (bL (ak (dw BZ (bH cA (by rfl) T.fK dG (ak (aN (pv 0) rfl) ao)) aO) ao))))))),?_⟩
  rw[Kd.YJ]at hm;refine Og (Tg.not (Eg.cJ (O9 (aW (aj rfl) X.ins c T.Aj rfl) (aj rfl) fun Q q=>⟨_,x,h.make,k,rfl,X.mak,hx,h16,q⟩))) (fun e H1 s1=>?_) (fun e H1 s1=>?_)
  ·rw[Bool.not_eq_true']at e
   rw[if_pos e]at hm;cases hm;exact refuse X I s1 aV d
  ·rw[Bool.not_eq_false']at e
   rw[if_neg (by rw[e];simp)]at hm;have X1:=X.same s1;refine cD (b:=decide (h.keys.length=8)) (Ev.cG (fun Q q=>dh (y:=8) (dH (aW (aj rfl) X1.ins c T.dN rfl) (aU X1.iW)) aV _ (by rw[List.length_map,X1.oZ];exact q))) (fun e8=>?_) (fun e8=>?_)
   ·have e8:=of_decide_eq_true e8
    rw[if_pos (by omega)]at hm;cases hm;exact refuse X I s1 aV d
   ·have e8:=of_decide_eq_false e8
    have h8:=I.nk;rw[if_neg (by omega)]at hm;cases hm;have l8:(rV z.ks).length≤8:=by rw[List.length_map,X1.oZ];exact h8
    have kc:=(Va I.made e).1;refine Ef (aW (aj rfl) X1.ins c T.dN rfl) (aj rfl) X1.iW (G7 l8 (by decide)) ?_;have X2:=X1.aiV I (hx.same s1) kc;refine pP (aaG (dH (aW (aj rfl) X2.ins c T.dN rfl) (aU X2.iW)) aV) fun l hl=>?_
    have:=Bv d X2 (I.key e (by omega)) rfl (fun b o eb nb=>cC _ _ (s1 _ _ eb) (fun q=>nb (by rw[q];exact List.mem_cons_self ..))) (xO s1) hl;have e3:((((rV (z.ks++[x])).length:Nat):Int)-1)=(h.keys.length:Int):=by
     rw[List.length_map,List.length_append,X1.oZ,List.length_singleton];omega
    rw[e3];exact this
end
end Kq
end
section
namespace Kq
open PySem PySem.Spec PyProof.Rows L2 Hk
theorem aep {m:Kh.Make}(hm:m.ok=true):m.depths≤10:=by
 unfold Kh.Make.ok Kh.within at hm;simp only[Bool.and_eq_true,decide_eq_true_iff]at hm;exact hm.2.1.2
theorem Vh {k c:Nat}{x:Kh.Side}(h:KhRooms.sideOf k c=some x):J4 x=(k,c)∧∀n,Kh.sideOk n x= !(decide (k=1)&&decide (n≤c)):=by
 unfold KhRooms.sideOf at h
 split at h
 ·rename_i e
  cases h;rw[e.1,e.2];exact⟨rfl,fun n=>rfl⟩
 ·split at h
  ·rename_i e
   cases h;refine⟨by rw[e];rfl,fun n=>?_⟩;show decide (c<n)=_;rw[Bool.eq_iff_iff];simp[e]
  ·split at h
   ·rename_i e
    cases h;refine⟨by rw[e.1,e.2];rfl,fun n=>?_⟩;show true=_;simp[e.1]
   ·cases h
theorem ae9 {n j:Nat}(h:j<n):Zu n (j:Int)=some j:=by
 unfold Zu;rw[if_pos (Int.natCast_nonneg j),if_pos (by omega),Int.toNat_natCast]
theorem Ib (k:Nat):∀hg:List (Nat×Nat),mF (uo hg) (Sum.inl (k:Int))=(Kd.gC hg k).map fun(r:Nat)=>V.int (r:Int)
 |[]=>rfl
 |p::r=>by
  have e:uo (p::r)=((Sum.inl (p.1:Int):L2.Key),V.int (p.2:Int))::uo r:=rfl;rw[e,Kd.jh];by_cases c:p.1=k
  ·rw[if_pos c,xH (by rw[c])]
   rfl
  ·rw[if_neg c,uw (fun q=>c (by have:=Sum.inl.inj q;omega)),Ib k r]
theorem af9 (hg:List (Nat×Nat)) (k r:Nat):putK (uo hg) (Sum.inl (k:Int)) (.int (r:Int))=uo (Kd.putN hg k r):=by
 unfold putK Kd.putN;rw[Az,Ib,Kd.uy,Option.isSome_map]
 split
 ·unfold uo
  rw[List.map_map,List.map_map];refine List.map_congr_left fun p _=>?_
  show(if (Sum.inl (p.1:Int):L2.Key)=Sum.inl (k:Int)then _ else _)=_;by_cases c:p.1=k
  ·rw[if_pos (by rw[c])]
   show _=((Sum.inl (((if p.1=k then(p.1,r)else p).1:Nat):Int):L2.Key),V.int (((if p.1=k then(p.1,r)else p).2:Nat):Int));rw[if_pos c]
  ·rw[if_neg (fun q=>c (by have:=Sum.inl.inj q;omega))]
   show _=((Sum.inl (((if p.1=k then(p.1,r)else p).1:Nat):Int):L2.Key),V.int (((if p.1=k then(p.1,r)else p).2:Nat):Int));rw[if_neg c]
 ·show _=List.map _ (hg++[(k,r)])
  rw[List.map_append];rfl
theorem aer (hg:List (Nat×Nat)) (k:Nat):Jy (uo hg) (Sum.inl (k:Int))=uo (Kd.zR hg k):=by
 unfold Jy Kd.zR uo;rw[List.filter_map]
 congr 1
 refine List.filter_congr fun p _=>?_
 show decide ((Sum.inl (p.1:Int):L2.Key)≠Sum.inl (k:Int))=decide (p.1≠k);refine b2 ⟨fun h q=>h (by rw[q]),fun h q=>h (by have:=Sum.inl.inj q;omega)⟩
section
variable {K:PySem.W.Frag}{ta tb:TE}{σ:L2.St}{H:Hp}
theorem Y7 {a:Addr}{hg:List (Nat×Nat)}{k:Nat}(ha:Ev ta σ H (.int (k:Int))) (hb:Ev tb σ H (.ref a)) (hd:H a=some (.dK (uo hg))):Ev (K7 ta tb) σ H (.bl (!(Kd.gC hg k).isSome)):=
 fun Q q=>ha _ (hb _ ⟨a,_,rfl,pZ.k (k:=Sum.inl (k:Int)) hd,by rw[Ib,Option.isSome_map];exact q⟩)
theorem ahF {a:Addr}{hg:List (Nat×Nat)}(ha:Ev ta σ H (.ref a)) (hd:H a=some (.dK (uo hg))):Ev (tCB (fun xs H Q=>∃a kvs,xs=[V.ref a]∧H a=some (.dK kvs)∧Q (.int kvs.length) H) (gB ta pR)) σ H (.int (hg.length:Int)):=
 fun Q q=>ha _ ⟨a,_,rfl,hd,by rw[show(uo hg).length=hg.length from List.length_map _];exact q⟩
end
section
variable {P:Program}{w:World}{K:PySem.W.Frag}{mg:Str→Option Value}{base:Heap}{A:Ad}
def Pa (A:Ad):Sp:=fun vs H Q _=>∃(a x:Addr) (z:lM) (h:Kh.House) (cb:List (Nat×List Nat)) (hg:List (Nat×Nat)) (y:Nat×List Nat) (r:Kh.House×KhRooms.Answer),vs=[.ref a, .ref x]∧bh A H a z h cb hg∧Kd.bV h cb hg∧rG A H x y∧y.2.length≤16∧(∀s∈y.2,s<2^32)∧
 KhRooms.made h (.cylinder y.1 y.2)=some r∧Done A H a z Q r.1 (HouseNeutral.told r.2)
theorem Pb (T:Txt K mg A):bK P w K mg base cV 5 A.qO A.kE ["house","cylinder"] (Pa A):=by
 refine T.jC.fn.ok Oo (fun vs H Q E h=>?_) (fun cdv Ar outer s H vs Q E hr h=>?_)
 ·obtain⟨a,x,z,h,cb,hg,k,r,rfl,_⟩:=h
  rfl
 ·obtain⟨a,x,z,h,cb,hg,k,r,rfl,X,I,hx,h16,h32,hm,d⟩:=h
  have c:=T.d9.cl;refine⟨_,(au (bU (gq (dj (aH (Ri T) (hr.mono (by decide)) rfl T.lq.mg T.lq.fn.kp (UW T) .nil aP (ak (aN (pv 0) rfl) (ak (pv 1) ao)))))
    (aB (aL (bL (ak (aY (v:= .int (-1)) rfl T.rF ⟨_,rfl⟩) ao))))
    bC)
   (au (bU (bM dW (bH cA (by rfl) T.fK dG (ak (aN (pv 0) rfl) ao)) (aY (v:= .int 16) rfl T.Ms ⟨_,rfl⟩) (bD _))
    (aB (aL (bL (ak (aY (v:= .int (-2)) rfl T.Sd ⟨_,rfl⟩) ao))))
    bC)
   (au (iH (rA PySem.F.plainAttrs_list PySem.F.slot_list_append PySem.F.type_list_append fW (aN (pv 0) rfl) (ak (pv 1) ao)))
   (aB (aL (bL (ak (dw BZ (bH cA (by rfl) T.fK dG (ak (aN (pv 0) rfl) ao)) aO) ao))))))),?_⟩
  rw[Kd.YK]at hm;have ec:h.cyls.length=cb.length:=by rw[I.cyls,List.length_map]
  refine Og (Tg.not (Eg.cJ (O9 (aW (aj rfl) X.ins c T.Aj rfl) (aj rfl) fun Q q=>⟨_,x,h.make,k,rfl,X.mak,aep I.made,hx,h16,h32,q⟩))) (fun e H1 s1=>?_) (fun e H1 s1=>?_)
  ·rw[Bool.not_eq_true']at e
   rw[if_pos e]at hm;cases hm;exact refuse X I s1 aV d
  ·rw[Bool.not_eq_false']at e
   rw[if_neg (by rw[e];simp)]at hm;have X1:=X.same s1;have h16:=I.nc;refine cD (b:=decide (cb.length=16)) (Ev.cG (fun Q q=>dh (y:=16) (dH (aW (aj rfl) X1.ins c T.dO rfl) (aU X1.jw)) aV _ (by rw[List.length_map,X1.nu];exact q))) (fun e8=>?_) (fun e8=>?_)
   ·have e8:=of_decide_eq_true e8
    rw[if_pos (by omega)]at hm;cases hm;exact refuse X I s1 aV d
   ·have e8:=of_decide_eq_false e8
    rw[if_neg (by omega)]at hm;cases hm;have l8:(rV z.cs).length≤16:=by rw[List.length_map,X1.nu];exact h16
    refine Ef (aW (aj rfl) X1.ins c T.dO rfl) (aj rfl) X1.jw (G7 l8 (by decide)) ?_;have X2:=X1.aiW I (hx.same s1) (Vb I.made h32 e).1;refine pP (aaG (dH (aW (aj rfl) X2.ins c T.dO rfl) (aU X2.jw)) aV) fun l hl=>?_
    have:=Bv d X2 (I.cyl e h32 (by omega)) rfl (fun b o eb nb=>cC _ _ (s1 _ _ eb) (fun q=>nb (by rw[q];exact List.mem_cons_of_mem _ (List.mem_cons_self ..)))) (xO s1) hl;have e3:((((rV (z.cs++[x])).length:Nat):Int)-1)=(h.cyls.length:Int):=by
     rw[List.length_map,List.length_append,X1.nu,List.length_singleton];omega
    rw[e3];exact this
def aaH (A:Ad):Sp:=fun vs H Q _=>∃(a e t u:Addr) (z:lM) (h:Kh.House) (cb:List (Nat×List Nat)) (hg:List (Nat×Nat)) (p q k c l d:Nat) (r:Kh.House×KhRooms.Answer),vs=[.ref a, .ref e, .ref t, .ref u]∧bh A H a z h cb hg∧Kd.bV h cb hg∧
 H e=some (.tup [.int p, .int q])∧H t=some (.tup [.int k, .int c])∧H u=some (.tup [.int l, .int d])∧KhRooms.made h (.door p q k c l d)=some r∧Done A H a z Q r.1 (HouseNeutral.told r.2)
theorem aaI (T:Txt K mg A):bK P w K mg base cV 2 A.zx A.tL ["house","ends","first","second"] (aaH A):=by
 refine T.rN.fn.ok aag (fun vs H Q E h=>?_) (fun cdv Ar outer s H vs Q E hr h=>?_)
 ·obtain⟨a,e,t,u,z,h,cb,hg,p,q,k,c,l,d,r,rfl,_⟩:=h
  rfl
 ·obtain⟨a,e,t,u,z,h,cb,hg,p,q,k,c,l,d,r,rfl,X,I,he,ht,hu',hm,dn⟩:=h
  have cl:=T.d9.cl;refine⟨_,(au (bU (PW.pt (Jr (gq (dj (aH (yU T) (hr.mono (by decide)) rfl T.fG.mg T.fG.fn.kp (Al T) .nil aP (ak (pv 2) ao)))) (Hr (gq (dj (aH (yU T) (hr.mono (by decide)) rfl T.fG.mg T.fG.fn.kp (Al T) .nil aP (ak (pv 3) ao)))))))
    (aB (aL (bL (ak (aY (v:= .int (-1)) rfl T.rF ⟨_,rfl⟩) ao))))
    bC)
   (au (bU (PW.pt (Jr (gq (dj (aH (zJ T) (hr.mono (by decide)) rfl T.iC.mg T.iC.fn.kp (Eb T) .nil aP (ak (pv 0) (ak (bG bw (pv 1) aO (fun _ _=>rfl)) ao))))) (Hr (gq (dj (aH (zJ T) (hr.mono (by decide)) rfl T.iC.mg T.iC.fn.kp (Eb T) .nil aP (ak (pv 0) (ak (bG bw (pv 1) aO (fun _ _=>rfl)) ao))))))))
    (aB (aL (bL (ak (aY (v:= .int (-4)) rfl T.mC ⟨_,rfl⟩) ao))))
    bC)
   (au (bU (PW.pt (Jr (dj (aH (rJ T) (hr.mono (by decide)) rfl T.cZ.mg T.cZ.fn.kp (uf T) .nil aP (ak (pv 0) (ak (pv 2) ao)))) (Hr (dj (aH (rJ T) (hr.mono (by decide)) rfl T.cZ.mg T.cZ.fn.kp (uf T) .nil aP (ak (pv 0) (ak (pv 3) ao)))))))
    (aB (aL (bL (ak (aY (v:= .int (-4)) rfl T.mC ⟨_,rfl⟩) ao))))
    bC)
   (au (bU (bM dW (bH cA (by rfl) T.fK dG (ak (aN (pv 0) rfl) ao)) (aY (v:= .int 24) rfl T.WY ⟨_,rfl⟩) (bD _))
    (aB (aL (bL (ak (aY (v:= .int (-2)) rfl T.Sd ⟨_,rfl⟩) ao))))
    bC)
   (au (iH (rA PySem.F.plainAttrs_list PySem.F.slot_list_append PySem.F.type_list_append fW (aN (pv 0) rfl) (ak (pv 1) ao)))
   (au (iH (rA PySem.F.plainAttrs_list PySem.F.slot_list_append PySem.F.type_list_append fW (aN (pv 0) rfl) (ak (pv 2) ao)))
   (au (iH (rA PySem.F.plainAttrs_list PySem.F.slot_list_append PySem.F.type_list_append fW (aN (pv 0) rfl) (ak (pv 3) ao)))
   (aB (aL (bL (ak (dw BZ (bH cA (by rfl) T.fK dG (ak (aN (pv 0) rfl) ao)) aO) ao))))))))))),?_⟩
  rw[Kd.Ua]at hm;have ec:h.cyls.length=cb.length:=by rw[I.cyls,List.length_map]
  refine cD (Tv.or (Tv.not (Ev.cJ (Ia (aj rfl) fun Q q=>⟨t,k,c,rfl,ht,q⟩))) (fun _=>Tv.not (Ev.cJ (Ia (aj rfl) fun Q q=>⟨u,l,d,rfl,hu',q⟩)))) (fun e1=>?_) (fun e1=>?_)
  ·have:∀x y,¬(KhRooms.sideOf k c=some x∧KhRooms.sideOf l d=some y):=by
    rintro x y ⟨q1,q2⟩;rw[q1,q2]at e1;cases e1
   have hm':r=(h,KhRooms.says (-1)):=by
    cases q1:KhRooms.sideOf k c with
    |none=>rw[q1]at hm;exact(Option.some.inj hm).symm
    |some x=>
     cases q2:KhRooms.sideOf l d with
     |none=>rw[q1,q2]at hm;exact(Option.some.inj hm).symm
     |some y=>exact absurd ⟨q1,q2⟩ (this x y)
   subst hm';exact refuse X I (same_refl H) aV dn
  ·rw[Bool.or_eq_false_iff,Bool.not_eq_false',Bool.not_eq_false']at e1
   obtain⟨x,q1⟩:=Option.isSome_iff_exists.mp e1.1;obtain⟨y,q2⟩:=Option.isSome_iff_exists.mp e1.2;rw[q1,q2]at hm;have hm:(if h.rooms≤p∨h.rooms≤q∨Kh.sideOk h.cyls.length x=false∨Kh.sideOk h.cyls.length y=false then some (h,KhRooms.says (-4))else if 24≤h.doors.length then some (h,KhRooms.says (-2))else some ({h with doors:=h.doors++[⟨p,q,x,y⟩]},KhRooms.says (h.doors.length:Int)))=some r:=hm;obtain⟨nx,ox⟩:=Vh q1;obtain⟨ny,oy⟩:=Vh q2;rw[ec]at hm;refine cD (Tv.or (Tv.not (Ev.cJ (gn (aj rfl) (jU (j:=0) (aj rfl) aV he rfl) fun Q q=>⟨a,z,h,cb,hg,_,rfl,X,q⟩))) (fun _=>Tv.not (Ev.cJ (gn (aj rfl) (jU (j:=1) (aj rfl) aV he rfl) fun Q q=>⟨a,z,h,cb,hg,_,rfl,X,q⟩)))) (fun e2=>?_) (fun e2=>?_)
   ·rw[Bool.or_eq_true,Bool.not_eq_true',Bool.not_eq_true',decide_eq_false_iff_not,decide_eq_false_iff_not]at e2
    rw[if_pos (by rcases e2 with e2|e2;exact .inl (by omega);exact .inr (.inl (by omega)))]at hm;cases hm;exact refuse X I (same_refl H) aV dn
   ·rw[Bool.or_eq_false_iff,Bool.not_eq_false',Bool.not_eq_false',decide_eq_true_iff,decide_eq_true_iff]at e2
    refine cD (Tv.or (Ev.cJ (gn (aj rfl) (aj rfl) fun Q q=>⟨a,z,h,cb,hg,t,k,c,rfl,X,ht,q⟩)) (fun _=>Ev.cJ (gn (aj rfl) (aj rfl) fun Q q=>⟨a,z,h,cb,hg,u,l,d,rfl,X,hu',q⟩))) (fun e3=>?_) (fun e3=>?_)
    ·rw[Bool.or_eq_true]at e3
     rw[if_pos (by rcases e3 with e3|e3;exact .inr (.inr (.inl (by rw[ox,e3];rfl)));exact .inr (.inr (.inr (by rw[oy,e3];rfl))))]at hm;cases hm;exact refuse X I (same_refl H) aV dn
    ·rw[Bool.or_eq_false_iff]at e3
     have kx:Kh.sideOk cb.length x=true:=by rw[ox,e3.1];rfl
     have ky:Kh.sideOk cb.length y=true:=by rw[oy,e3.2];rfl
     rw[if_neg (by rintro(g|g|g|g);omega;omega;rw[kx]at g;cases g;rw[ky]at g;cases g)]at hm;have h24:=I.nd;refine cD (b:=decide (h.doors.length=24)) (Ev.cG (fun Q q=>dh (y:=24) (dH (aW (aj rfl) X.ins cl T.jt rfl) (aU X.gA)) aV _ (by rw[List.length_map,X.mD];exact q))) (fun e4=>?_) (fun e4=>?_)
     ·have e4:=of_decide_eq_true e4
      rw[if_pos (by omega)]at hm;cases hm;exact refuse X I (same_refl H) aV dn
     ·have e4:=of_decide_eq_false e4
      rw[if_neg (by omega)]at hm;cases hm;obtain⟨n1,n2,n3,n4,n5,n6⟩:=nd4 X.nd;have ld:(rV z.ds).length≤24:=by rw[List.length_map,X.mD];exact h24
      have ls:(rV z.ss).length≤48:=by rw[List.length_map,X.jT];omega
      refine Ef (aW (aj rfl) X.ins cl T.jt rfl) (aj rfl) X.gA (G7 ld (by decide)) ?_;have i1:=fB (p:=z.aD) cC X.gA (fun _ _ _ e=>nomatch e) X.ins (H':=upd H z.aD (.lst (rV z.ds++[.ref e])));have s1:upd H z.aD (.lst (rV z.ds++[.ref e])) z.aS=some (.lst (rV z.ss)):=cC _ _ X.fL n6.symm;refine Ef (aW (aj rfl) i1 cl T.gM rfl) (aj rfl) s1 (G7 ls (by decide)) ?_;have i2:=fB (p:=z.aS) cC s1 (fun _ _ _ e=>nomatch e) i1 (H':=upd (upd H z.aD (.lst (rV z.ds++[.ref e]))) z.aS (.lst (rV z.ss++[.ref t])));refine Ef (aW (aj rfl) i2 cl T.gM rfl) (aj rfl) aq (G7 (m:=50) (by rw[List.length_append,List.length_singleton];omega) (by decide)) ?_;have X2:=X.ahE I (d:=⟨p,q,x,y⟩) he (by show H t=_;rw[nx];exact ht) (by show H u=_;rw[ny];exact hu');refine pP (aaG (dH (aW (aj rfl) X2.ins cl T.jt rfl) (aU X2.gA)) aV) fun l hl=>?_
      have:=Bv dn X2 (I.door e2.1 e2.2 kx ky (by omega)) rfl (fun b o eb nb=>?_) (fun b hb=>?_) hl
      ·have e5:((((rV (z.ds++[e])).length:Nat):Int)-1)=(h.doors.length:Int):=by
        rw[List.length_map,List.length_append,X.mD,List.length_singleton];omega
       rw[e5];exact this
      ·have m1:b≠z.aD:=fun q=>nb (by rw[q];unfold Ts;simp)
       have m2:b≠z.aS:=fun q=>nb (by rw[q];unfold Ts;simp)
       rw[aJ m2,aJ m2,aJ m1];exact eb
      ·by_cases m2:b=z.aS
       ·subst m2
        rw[aq]at hb;cases hb
       ·rw[aJ m2,aJ m2]at hb
        exact xO (same_refl H) b hb
end
end Kq
end
section
namespace Kq
open PySem PySem.Spec PyProof.Rows L2 Hk
section
variable {K:PySem.W.Frag}{ta tb tc:TE}{σ:L2.St}{H:Hp}{u:TS}{D:Ends}{v:V}
abbrev Ea (t:TA) (σ:L2.St) (H:Hp) (vs:List V):Prop:=∀Q:List V→Hp→Prop,Q vs H→t σ H Q
theorem bA:Ea pR σ H []:=fun Q q=>q
theorem aA {t:TA}{xs:List V}(h:Ev ta σ H v) (r:Ea t σ H xs):Ea (gB ta t) σ H (v::xs):=fun Q q=>h _ (r _ q)
theorem ahG {t:TA}{vs:List V}(h:Ea t σ H vs) (hl:vs.length≤30000) (k:∀l,H l=none→D.rt (.ref l) (upd H l (.lst vs))):Iv (SJ t) D σ H:=h _ ⟨Nat.le_of_lt (cB hl),k⟩
theorem ahH {p:Addr}{xs:List V}{j:Nat}(hv:Ev tc σ H v) (ho:Ev ta σ H (.ref p)) (hi:Ev tb σ H (.int (j:Int))) (hp:H p=some (.lst xs)) (hj:j<xs.length) (k:u D σ (upd H p (.lst (xs.set j v)))):zf (Qi tc (agB ta tb adH)) u D σ H:=
 hv _ (ho _ (hi _ ⟨p,xs,_,j,rfl,rfl,hp,ae9 hj,k⟩))
theorem aiY {a:Addr}{hg:List (Nat×Nat)}{k r:Nat}(hv:Ev tc σ H (.int (r:Int))) (ho:Ev ta σ H (.ref a)) (hi:Ev tb σ H (.int (k:Int))) (hd:H a=some (.dK (uo hg))) (hl:hg.length≤30000) (q:u D σ (upd H a (.dK (uo (Kd.putN hg k r))))):zf (adM ta tb tc) u D σ H:=
 hv _ (ho _ (hi _ ⟨a,_,rfl,K6.k (k:=Sum.inl (k:Int)) hd (cB (by rw[show(uo hg).length=hg.length from List.length_map _];exact hl)),by rw[af9];exact q⟩))
theorem aiZ {a:Addr}{hg:List (Nat×Nat)}{k r:Nat}(ho:Ev ta σ H (.ref a)) (hi:Ev tb σ H (.int (k:Int))) (hd:H a=some (.dK (uo hg))) (hr:Kd.gC hg k=some r) (q:u D σ (upd H a (.dK (uo (Kd.zR hg k))))):zf (Sw (aeZ ta tb)) u D σ H:=
 ho _ ⟨a,rfl, .inl ⟨_, .inl hd⟩,hi _ ⟨_,Sum.inl (k:Int), .int (r:Int),hd,rfl,by rw[Ib,hr];rfl,by rw[aer];exact q⟩⟩
end
section
variable {P:Program}{w:World}{K:PySem.W.Frag}{mg:Str→Option Value}{base:Heap}{A:Ad}
def aaJ (A:Ad):Sp:=fun vs H Q _=>∃(a t:Addr) (z:lM) (h:Kh.House) (cb:List (Nat×List Nat)) (hg:List (Nat×Nat)) (n k c:Nat) (r:Kh.House×KhRooms.Answer),vs=[.ref a, .int n, .ref t]∧bh A H a z h cb hg∧Kd.bV h cb hg∧
 H t=some (.tup [.int k, .int c])∧KhRooms.made h (.fit n k c)=some r∧Done A H a z Q r.1 (HouseNeutral.told r.2)
theorem aaK (T:Txt K mg A):bK P w K mg base cV 2 A.zy A.tM ["house","number","side"] (aaJ A):=by
 refine T.rO.fn.ok aah (fun vs H Q E h=>?_) (fun cdv Ar outer s H vs Q E hr h=>?_)
 ·obtain⟨a,t,z,h,cb,hg,n,k,c,r,rfl,_⟩:=h
  rfl
 ·obtain⟨a,t,z,h,cb,hg,n,k,c,r,rfl,X,I,ht,hm,dn⟩:=h
  have cl:=T.d9.cl;refine⟨_,(au (bU (gq (dj (aH (yU T) (hr.mono (by decide)) rfl T.fG.mg T.fG.fn.kp (Al T) .nil aP (ak (pv 2) ao))))
    (aB (aL (bL (ak (aY (v:= .int (-1)) rfl T.rF ⟨_,rfl⟩) ao))))
    bC)
   (au (bU (PW.pt (Jr (gq (dj (aH (QF T) (hr.mono (by decide)) rfl T.oV.mg T.oV.fn.kp (U3 T) .nil aP (ak (pv 0) (ak (pv 1) ao))))) (Hr (dj (aH (rJ T) (hr.mono (by decide)) rfl T.cZ.mg T.cZ.fn.kp (uf T) .nil aP (ak (pv 0) (ak (pv 2) ao)))))))
    (aB (aL (bL (ak (aY (v:= .int (-4)) rfl T.mC ⟨_,rfl⟩) ao))))
    bC)
   (au (aeP (pv 2) (aeO (aN (pv 0) rfl) (pv 1) set_list))
   (aB (aL (bL (ak aO ao))))))),?_⟩
  rw[Kd.YL]at hm;have ec:h.cyls.length=cb.length:=by rw[I.cyls,List.length_map]
  refine cD (Tv.not (Ev.cJ (Ia (aj rfl) fun Q q=>⟨t,k,c,rfl,ht,q⟩))) (fun e1=>?_) (fun e1=>?_)
  ·rw[Bool.not_eq_true',Option.isSome_eq_false_iff,Option.isNone_iff_eq_none]at e1
   rw[e1]at hm;cases hm;exact refuse X I (same_refl H) aV dn
  ·rw[Bool.not_eq_false']at e1
   obtain⟨x,q1⟩:=Option.isSome_iff_exists.mp e1;rw[q1,ec]at hm;have hm:(if 2*h.doors.length≤n∨Kh.sideOk cb.length x=false then some (h,KhRooms.says (-4))else some (Kd.wL h n x,KhRooms.says 0))=some r:=hm;obtain⟨nx,ox⟩:=Vh q1;refine cD (Tv.or (Tv.not (Ev.cJ (gn (aj rfl) (aj rfl) fun Q q=>⟨a,z,h,cb,hg,_,rfl,X,q⟩))) (fun _=>Ev.cJ (gn (aj rfl) (aj rfl) fun Q q=>⟨a,z,h,cb,hg,t,k,c,rfl,X,ht,q⟩))) (fun e2=>?_) (fun e2=>?_)
   ·rw[Bool.or_eq_true,Bool.not_eq_true',decide_eq_false_iff_not]at e2
    rw[if_pos (by rcases e2 with e2|e2;exact .inl (by omega);exact .inr (by rw[ox,e2];rfl))]at hm;cases hm;exact refuse X I (same_refl H) aV dn
   ·rw[Bool.or_eq_false_iff,Bool.not_eq_false',decide_eq_true_iff]at e2
    have kx:Kh.sideOk cb.length x=true:=by rw[ox,e2.2];rfl
    rw[if_neg (by rintro(g|g);omega;rw[kx]at g;cases g)]at hm;cases hm;refine ahH (aj rfl) (aW (aj rfl) X.ins cl T.gM rfl) (aj rfl) X.fL (by rw[List.length_map,X.jT];exact e2.1) ?_;have X2:=X.ahD I (t:=t) (y:=x) e2.1 (by show H t=_;rw[nx];exact ht);refine pP aV fun l hl=>?_
    exact Bv dn X2 (I.fit n kx) rfl (fun b o eb nb=>cC _ _ eb (fun q=>nb (by rw[q];unfold Ts;simp))) (xO (same_refl H)) hl
def aaL (A:Ad):Sp:=fun vs H Q _=>∃(a:Addr) (z:lM) (h:Kh.House) (cb:List (Nat×List Nat)) (hg:List (Nat×Nat)) (k n:Nat) (r:Kh.House×KhRooms.Answer),vs=[.ref a, .int k, .int n]∧bh A H a z h cb hg∧Kd.bV h cb hg∧
 KhRooms.made h (.hang k n)=some r∧Done A H a z Q r.1 (HouseNeutral.told r.2)
theorem aaM (T:Txt K mg A):bK P w K mg base cV 2 A.zA A.tO ["house","key","room"] (aaL A):=by
 refine T.rP.fn.ok aai (fun vs H Q E h=>?_) (fun cdv Ar outer s H vs Q E hr h=>?_)
 ·obtain⟨a,z,h,cb,hg,k,n,r,rfl,_⟩:=h
  rfl
 ·obtain⟨a,z,h,cb,hg,k,n,r,rfl,X,I,hm,dn⟩:=h
  have cl:=T.d9.cl;have hu:=FQ hr;refine⟨_,(au (bU (PW.pt (Jr (gq (dj (aH (Fd T) (hr.mono (by decide)) rfl T.gJ.mg T.gJ.fn.kp (G4 T) .nil aP (ak (pv 0) (ak (pv 1) ao))))) (Hr (gq (dj (aH (zJ T) (hr.mono (by decide)) rfl T.iC.mg T.iC.fn.kp (Eb T) .nil aP (ak (pv 0) (ak (pv 2) ao))))))))
    (aB (aL (bL (ak (aY (v:= .int (-4)) rfl T.mC ⟨_,rfl⟩) ao))))
    bC)
   (au (bU (PW.pt (Ht (Kz (Cq hu (pv 1) (aN (pv 0) rfl))) (Ay (bM dW (bH adP (by rfl) T.fK dG (ak (aN (pv 0) rfl) ao)) (aY (v:= .int 4) rfl T.Q5 ⟨_,rfl⟩) (bD _)))))
    (aB (aL (bL (ak (aY (v:= .int (-2)) rfl T.Sd ⟨_,rfl⟩) ao))))
    bC)
   (au (Tn hu (aN (pv 0) rfl) (pv 1) (pv 2) rfl)
   (aB (aL (bL (ak aO ao))))))),?_⟩
  rw[Kd.Ub]at hm;refine cD (Tv.or (Tv.not (Ev.cJ (gn (aj rfl) (aj rfl) fun Q q=>⟨a,z,h,cb,hg,_,rfl,X,q⟩))) (fun _=>Tv.not (Ev.cJ (gn (aj rfl) (aj rfl) fun Q q=>⟨a,z,h,cb,hg,_,rfl,X,q⟩)))) (fun e2=>?_) (fun e2=>?_)
  ·rw[Bool.or_eq_true,Bool.not_eq_true',Bool.not_eq_true',decide_eq_false_iff_not,decide_eq_false_iff_not]at e2
   rw[if_pos (by omega)]at hm;cases hm;exact refuse X I (same_refl H) aV dn
  ·rw[Bool.or_eq_false_iff,Bool.not_eq_false',Bool.not_eq_false',decide_eq_true_iff,decide_eq_true_iff]at e2
   rw[if_neg (by omega),Kd.adX I e2.1 e2.2,Kd.Qv]at hm;have h4:=I.hn;refine cD (Tv.and (Ev.cJ (Y7 (aj rfl) (aW (aj rfl) X.ins cl T.gj rfl) X.hang)) (fun _=>Ev.cG (dh (y:=4) (ahF (aW (aj rfl) X.ins cl T.gj rfl) X.hang) aV))) (fun e3=>?_) (fun e3=>?_)
   ·rw[Bool.and_eq_true,Bool.not_eq_true',decide_eq_true_iff]at e3
    rw[e3.1,if_pos (show 4<(if false=true then hg.length else hg.length+1) by rw[if_neg (by simp)];omega)]at hm;cases hm;exact refuse X I (same_refl H) aV dn
   ·have hp:(if (Kd.gC hg k).isSome=true then hg.length else hg.length+1)≤4:=by
     split
     ·exact h4
     ·rename_i g
      rw[Bool.not_eq_true]at g;rw[g]at e3;have:=of_decide_eq_false (show decide (hg.length=4)=false from e3);omega
    rw[if_neg (by omega)]at hm;cases hm;refine aiY (aj rfl) (aW (aj rfl) X.ins cl T.gj rfl) (aj rfl) X.hang (by omega) ?_;have X2:=X.acK (hk:=h.hooks.set k (some n)) (hg':=Kd.putN hg k n);refine pP aV fun l hl=>?_
    exact Bv dn X2 (I.hang e2.1 e2.2 (by rw[Kd.Qv];exact hp)) rfl (fun b o eb nb=>cC _ _ eb (fun q=>nb (by rw[q];unfold Ts;simp))) (xO (same_refl H)) hl
def Vi (A:Ad):Sp:=fun vs H Q _=>∃(a:Addr) (z:lM) (h:Kh.House) (cb:List (Nat×List Nat)) (hg:List (Nat×Nat)) (k:Nat) (r:Kh.House×KhRooms.Answer),vs=[.ref a, .int k]∧bh A H a z h cb hg∧Kd.bV h cb hg∧
 KhRooms.made h (.unhang k)=some r∧Done A H a z Q r.1 (HouseNeutral.told r.2)
theorem Vj (T:Txt K mg A):bK P w K mg base cV 2 A.u0 A.oK ["house","key"] (Vi A):=by
 refine T.mX.fn.ok Ux (fun vs H Q E h=>?_) (fun cdv Ar outer s H vs Q E hr h=>?_)
 ·obtain⟨a,z,h,cb,hg,k,r,rfl,_⟩:=h
  rfl
 ·obtain⟨a,z,h,cb,hg,k,r,rfl,X,I,hm,dn⟩:=h
  have cl:=T.d9.cl;have hu:=FQ hr;refine⟨_,(au (bU (gq (dj (aH (Fd T) (hr.mono (by decide)) rfl T.gJ.mg T.gJ.fn.kp (G4 T) .nil aP (ak (pv 0) (ak (pv 1) ao)))))
    (aB (aL (bL (ak (aY (v:= .int (-4)) rfl T.mC ⟨_,rfl⟩) ao))))
    bC)
   (au (bU (Kz (Cq hu (pv 1) (aN (pv 0) rfl)))
    (aB (aL (bL (ak (aY (v:= .int (-3)) rfl T.Bq ⟨_,rfl⟩) ao))))
    bC)
   (au (iH (afA (aN (pv 0) rfl) (pv 1) ⟨rfl,rfl,rfl,rfl⟩))
   (aB (aL (bL (ak aO ao))))))),?_⟩
  rw[Kd.Lx]at hm;refine cD (Tv.not (Ev.cJ (gn (aj rfl) (aj rfl) fun Q q=>⟨a,z,h,cb,hg,_,rfl,X,q⟩))) (fun e2=>?_) (fun e2=>?_)
  ·rw[Bool.not_eq_true',decide_eq_false_iff_not]at e2
   rw[if_pos (by omega)]at hm;cases hm;exact refuse X I (same_refl H) aV dn
  ·rw[Bool.not_eq_false',decide_eq_true_iff]at e2
   rw[if_neg (by omega),I.hook e2]at hm;refine cD (Ev.cJ (Y7 (aj rfl) (aW (aj rfl) X.ins cl T.gj rfl) X.hang)) (fun e3=>?_) (fun e3=>?_)
   ·rw[Bool.not_eq_true']at e3
    rw[if_pos e3]at hm;cases hm;exact refuse X I (same_refl H) aV dn
   ·rw[Bool.not_eq_false']at e3
    obtain⟨v,hv⟩:=Option.isSome_iff_exists.mp e3;rw[if_neg (by rw[e3];simp)]at hm;cases hm;refine aiZ (aW (aj rfl) X.ins cl T.gj rfl) (aj rfl) X.hang hv ?_;have X2:=X.acK (hk:=h.hooks.set k none) (hg':=Kd.zR hg k);refine pP aV fun l hl=>?_
    exact Bv dn X2 (I.unhang e2) rfl (fun b o eb nb=>cC _ _ eb (fun q=>nb (by rw[q];unfold Ts;simp))) (xO (same_refl H)) hl
def Xj (A:Ad):Sp:=fun vs H Q _=>∃(a:Addr) (z:lM) (h:Kh.House) (cb:List (Nat×List Nat)) (hg:List (Nat×Nat)),vs=[.ref a]∧bh A H a z h cb hg∧Kd.bV h cb hg∧Done A H a z Q h (HouseNeutral.told (KhRooms.answer h .counts))
theorem Xk (T:Txt K mg A):bK P w K mg base cV 1 A.wO A.qp ["house"] (Xj A):=by
 refine T.pG.fn.ok WM (fun vs H Q E h=>?_) (fun cdv Ar outer s H vs Q E hr h=>?_)
 ·obtain⟨a,z,h,cb,hg,rfl,_⟩:=h
  rfl
 ·obtain⟨a,z,h,cb,hg,rfl,X,I,dn⟩:=h
  have cl:=T.d9.cl;refine⟨_,(aB (aL (bL (ak aO (ak (bH cA (by rfl) T.fK dG (ak (aN (pv 0) rfl) ao)) (ak (bH cA (by rfl) T.fK dG (ak (aN (pv 0) rfl) ao)) (ak (bH cA (by rfl) T.fK dG (ak (aN (pv 0) rfl) ao)) (ak (aN (pv 0) rfl) ao)))))))),?_⟩;refine ahG (aA aV (aA (dH (aW (aj rfl) X.ins cl T.dN rfl) (aU X.iW)) (aA (dH (aW (aj rfl) X.ins cl T.dO rfl) (aU X.jw)) (aA (dH (aW (aj rfl) X.ins cl T.jt rfl) (aU X.gA)) (aA (aW (aj rfl) X.ins cl T.oX rfl) bA))))) (by show 5≤30000;decide) fun l hl=>?_
  have ec:h.cyls.length=cb.length:=by rw[I.cyls,List.length_map]
  have:=acL X I (same_refl H) dn hl;rw[List.length_map,List.length_map,List.length_map,X.oZ,X.nu,X.mD,←ec];exact this
end
end Kq
end
section
namespace Kq
open PySem PySem.Spec PyProof.Rows L2 Hk
def lN (h:Kh.House) (y:Kh.Cyl) (k:Nat):Bool:=(h.keys[k]?).any fun(x:Kh.Key)=>Kh.turns x y
theorem Eh (f:Nat→Bool) (i:Nat):(List.range (i+1)).filter f=(List.range i).filter f++(if f i=true then[i]else[]):=by
 rw[List.range_succ,List.filter_append,List.filter_cons,List.filter_nil]
theorem vh (a b:List Nat):nV (a++b)=nV a++nV b:=List.map_append ..
theorem vm {l:List Addr}{i:Nat}{x:V}(h:(rV l)[i]?=some x):∃n,l[i]?=some n∧x= .ref n:=by
 rw[List.getElem?_map]at h;obtain⟨n,h1,h2⟩:=Option.map_eq_some_iff.mp h;exact⟨n,h1,h2.symm⟩
theorem j5 {α β:Type}{a:List α}{b:List β}(e:a.length=b.length){i:Nat}{x:α}(h:a[i]?=some x):∃y,b[i]?=some y:=by
 have:=(List.getElem?_eq_some_iff.mp h).1;exact⟨b[i]'(by omega),List.getElem?_eq_getElem (by omega)⟩
section
variable {P:Program}{w:World}{K:PySem.W.Frag}{mg:Str→Option Value}{base:Heap}{A:Ad}
def J6 (A:Ad):Sp:=fun vs H Q _=>∃(a x:Addr) (z:lM) (h:Kh.House) (cb:List (Nat×List Nat)) (hg:List (Nat×Nat)) (y:Nat×List Nat),vs=[.ref a, .ref x]∧bh A H a z h cb hg∧Kd.bV h cb hg∧rG A H x y∧y∈cb∧
 ∀H' l,Same H H'→H l=none→H' l=some (.lst (nV ((List.range h.keys.length).filter (lN h (Kd.fX y)))))→Q (.ref l) H'
theorem yV (T:Txt K mg A):bK P w K mg base cV 3 A.nH A.jk ["house","cylinder"] (J6 A):=by
 refine T.eN.fn.ok rC (fun vs H Q E h=>?_) (fun cdv Ar outer s H vs Q E hr h=>?_)
 ·obtain⟨a,x,z,h,cb,hg,y,rfl,_⟩:=h
  rfl
 ·obtain⟨a,x,z,h,cb,hg,y,rfl,X,I,hx,my,k⟩:=h
  have cl:=T.d9.cl;refine⟨_,(aB (aL (pW rfl rC.nd (ag5 rfl T.aas (ak (aN (pv 0) rfl) ao)) (gP (N:=["house","cylinder","number","key"]) (sc:=aF nA) (own:=[("number",2),("key",3)]) rfl (by decide+kernel)) (fun _ _ _ _ _=>(Lz K rfl (i:=2) (j:=3) rfl rC.nd rfl rfl (by first|exact Or.inl rfl|exact Or.inr rfl) (by first|exact Or.inl rfl|exact Or.inr rfl) (by first|exact Or.inl rfl|exact Or.inr rfl) (by first|exact Or.inl rfl|exact Or.inr rfl))) (fun _ _ _ _ _=>(rY (dj (aH (af7 T) (hr.mono (by decide)) rfl T.Bp.mg T.Bp.fn.kp (ahC T) .nil aP (ak (pv 3) (ak (pv 1) ao)))))) (fun _ _ _ _ _=>(pv 2))))),?_⟩;have ys:=Vb I.made (I.zT y my).2 (I.zT y my).1;refine aW (aj rfl) X.ins cl T.dN rfl _ ⟨z.aK,_,rfl,aU X.iW,fun D hD=>?_⟩;refine ahj (xs:=rV z.ks) (fun i H'=>Acc H D (nV ((List.range i).filter (lN h (Kd.fX y)))) H') (Acc.start hD) (fun i H' _ acc=>aU (acc.same _ _ X.iW)) (fun i v H' t hi acc ht=>?_) (fun H' acc=>?_)
  ·obtain⟨n,hn,rfl⟩:=vm hi
   obtain⟨q,hq⟩:=j5 X.oZ hn;have s2:Same H' (upd H' t (.tup [.int (i:Nat), .ref n])):=aZ ht;have s3:=acc.same.trans s2;have ck:=Va I.made (I.keys q (List.mem_of_getElem? hq));refine⟨t,_,rfl, .inl (.inl aq),rfl,_,_,rfl,_,_,rfl,rfl,rfl,?_⟩;refine Eg.cJ (O9 (aj rfl) (aj rfl) fun Q q'=>⟨n,x,q,y,rfl,(X.keys i n q hn hq).same s3,hx.same s3,by rw[ck.2.1,ys.2.1],by omega,fun c mc=>by have:=ck.2.2.2.1 c mc;omega,ys.2.2,q'⟩) _ fun H2 s4=>?_
   have ef:lN h (Kd.fX y) i=Kh.turns q (Kd.fX y):=by
    unfold lN;rw[hq];rfl
   rw[←ef];have es:=Eh (lN h (Kd.fX y)) i;have hi':i<8:=by
    have:=(List.getElem?_eq_some_iff.mp hq).1;have:=I.nk;omega
   cases c:lN h (Kd.fX y) i with
   |false=>
    rw[c,if_neg (by simp),List.append_nil]at es;show Acc H D (nV ((List.range (i+1)).filter (lN h (Kd.fX y)))) H2;rw[es];exact acc.keep (s2.trans s4)
   |true=>
    rw[c,if_pos rfl]at es;refine⟨_,rfl,_,s4 _ _ (s2 _ _ acc.lst),?_,?_⟩
    ·rw[bR]
     have:=Kd.bB i (lN h (Kd.fX y));exact cB (by omega)
    ·rw[es,vh]
     exact acc.push (s2.trans s4) hD _
  ·rw[List.length_map,X.oZ]at acc
   exact k H' D acc.same hD acc.lst
theorem bx {sp:Sp}{E:XK}{t:TA}{σ:L2.St}{H:Hp}{Q:VK}{vs:List V}(h:Ea t σ H vs) (k:sp vs H Q E):NP sp [] E t σ H Q:=h _ (by rw[List.append_nil];exact k)
theorem QG (l:List Nat):iV (HouseNeutral.told (KhRooms.tells l))=V.int (l.length:Int)::nV l:=by
 show V.int (l.length:Int)::((l.map fun(n:Nat)=>(n:Int)).map V.int)=_;rw[List.map_map];rfl
theorem Y8 {te tx:TE}{D:Ends}{σ:L2.St}{H:Hp}{l:Addr}{xs:List Nat}(he:Ev te σ H (.int (xs.length:Int))) (hx:∀H',Same H H'→Ev tx σ H' (.ref l)) (hl:H l=some (.lst (nV xs))) (hn:xs.length≤10000)
  (k:∀H' q,Same H H'→H q=none→H' q=some (.lst (iV (HouseNeutral.told (KhRooms.tells xs))))→D.rt (.ref q) H'):Iv (rz agR (SJ (gB te pR)) tx) D σ H:=by
 refine he _ ⟨by show 1≤sizeLine;decide,fun p hp=>?_⟩;have s1:Same H (upd H p (.lst [.int (xs.length:Int)])):=aZ hp;refine hx _ s1 _ ⟨p,l,_,_,rfl,rfl,aq,s1 _ _ hl,?_,fun q hq=>?_⟩
 ·rw[bR]
  exact Nat.le_of_lt (cB (by show 1+xs.length≤30000;omega))
 ·refine k _ q (s1.trans (aZ hq)) (s1.free hq) ?_
  rw[aq,QG];rfl
def Ph (A:Ad):Sp:=fun vs H Q _=>∃(a:Addr) (z:lM) (h:Kh.House) (cb:List (Nat×List Nat)) (hg:List (Nat×Nat)) (s:Nat),vs=[.ref a, .int s]∧bh A H a z h cb hg∧Kd.bV h cb hg∧Done A H a z Q h (HouseNeutral.told (KhRooms.answer h (.opens s)))
theorem J7 {h:Kh.House}{s:Nat}(hs:s<2*h.doors.length):∃x d,h.side s=some x∧d∈h.doors∧(x=d.sa∨x=d.sb):=by
 obtain⟨d,e,m⟩:=Kd.xV hs;unfold Kh.House.side;rw[e];refine⟨_,d,rfl,m,?_⟩;show(if s%2=0 then d.sa else d.sb)=d.sa∨(if s%2=0 then d.sa else d.sb)=d.sb
 split
 ·exact .inl rfl
 ·exact .inr rfl
theorem aes {H:Hp}{a:Addr}{z:lM}{h:Kh.House}{cb:List (Nat×List Nat)}{hg:List (Nat×Nat)}{Q:VK}{out:List Int}(d:Done A H a z Q h out) (X:bh A H a z h cb hg) (I:Kd.bV h cb hg){H':Hp}{l:Addr}(s:Same H H') (hn:H l=none) (hl:H' l=some (.lst (iV out))):Q (.ref l) H':=
 d H' l z cb hg (X.same s) I rfl (fun b o e _=>s b o e) hn hl
theorem Pj (T:Txt K mg A):bK P w K mg base cV 4 A.qP A.kI ["house","number"] (Ph A):=by
 refine T.jD.fn.ok uG (fun vs H Q E h=>?_) (fun cdv Ar outer s H vs Q E hr h=>?_)
 ·obtain⟨a,z,h,cb,hg,n,rfl,_⟩:=h
  rfl
 ·obtain⟨a,z,h,cb,hg,n,rfl,X,I,dn⟩:=h
  have cl:=T.d9.cl;refine⟨_,(au (bU (gq (dj (aH (QF T) (hr.mono (by decide)) rfl T.oV.mg T.oV.fn.kp (U3 T) .nil aP (ak (pv 0) (ak (pv 1) ao)))))
    (aB (aL (bL (ak (aY (v:= .int (-4)) rfl T.mC ⟨_,rfl⟩) ao))))
    bC)
   (au (bJ (i:=2) uG.nd rfl (by first|exact Or.inl rfl|exact Or.inr rfl) (bG bw (aN (pv 0) rfl) (pv 1) (fun _ _=>rfl)))
   (au (bU (bM Ft (bG bw (pv 2) aO (fun _ _=>rfl)) (aY (v:= .int 1) rfl T.HX ⟨_,rfl⟩) (bD _))
    (aB (aL (bL (ak aO ao))))
    bC)
   (au (bJ (i:=3) uG.nd rfl (by first|exact Or.inl rfl|exact Or.inr rfl) (aH (yV T) (hr.mono (by decide)) rfl T.eN.mg T.eN.fn.kp (zG T) .nil aP (ak (pv 0) (ak (bG bw (aN (pv 0) rfl) (bG bw (pv 2) aO (fun _ _=>rfl)) (fun _ _=>rfl)) ao))))
   (aB (aL (dw KZ (bL (ak (bH cA (by rfl) T.fK dG (ak (pv 3) ao)) ao)) (pv 3)))))))),?_⟩
  have dn:Done A H a z Q h (HouseNeutral.told (if 2*h.doors.length≤n then KhRooms.says (-4)else KhRooms.tells (h.opens n))):=dn;refine cD (Tv.not (Ev.cJ (gn (aj rfl) (aj rfl) fun Q q=>⟨a,z,h,cb,hg,_,rfl,X,q⟩))) (fun e2=>?_) (fun e2=>?_)
  ·rw[Bool.not_eq_true',decide_eq_false_iff_not]at e2
   rw[if_pos (by omega)]at dn;exact refuse X I (same_refl H) aV dn
  ·rw[Bool.not_eq_false',decide_eq_true_iff]at e2
   rw[if_neg (by omega)]at dn;obtain⟨x,d,hx,md,xd⟩:=J7 e2;obtain⟨t,ht⟩:∃t,z.ss[n]?=some t:=⟨z.ss[n]'(by rw[X.jT];exact e2),List.getElem?_eq_getElem _⟩
   have hs:=X.sides n t x ht hx;refine nj (bI (j:=n) (v:= .ref t) (aW (aj rfl) X.ins cl T.gM rfl) (aj rfl) (aU X.fL) (by rw[List.getElem?_map,ht];rfl)) ?_;refine cD (Ev.cG (HY (x:=(J4 x).1) (y:=1) (jU (j:=0) (aj rfl) aV hs rfl) aV)) (fun e3=>?_) (fun e3=>?_)
   ·have e4:h.opens n=[]:=by
     unfold Kh.House.opens;rw[hx];cases x with
     |free=>rfl
     |shut=>rfl
     |locked c=>cases e3
    rw[e4]at dn;exact refuse X I (same_refl H) aV dn
   ·cases x with
    |free=>cases e3
    |shut=>cases e3
    |locked c=>
     have ok:Kh.sideOk cb.length (.locked c)=true:=by
      have:=I.sides d md;rcases xd with q|q
      ·rw[q];exact this.1
      ·rw[q];exact this.2
     have hc:c<cb.length:=of_decide_eq_true ok;have hy:cb[c]?=some cb[c]:=List.getElem?_eq_getElem hc;obtain⟨xc,hxc⟩:∃t,z.cs[c]?=some t:=⟨z.cs[c]'(by rw[X.nu];exact hc),List.getElem?_eq_getElem _⟩
     have e4:h.opens n=(List.range h.keys.length).filter (lN h (Kd.fX cb[c])):=by
      unfold Kh.House.opens;rw[hx];show(match h.cyls[c]? with
       |some y=>(List.range h.keys.length).filter fun(k:Nat)=>(h.keys[k]?).any fun(x:Kh.Key)=>Kh.turns x y
       |none=>[])=_
      rw[I.cyls,List.getElem?_map,hy];rfl
     rw[e4]at dn;refine dF (bx (aA (aj (v:= .ref a) rfl) (aA (bI (j:=c) (v:= .ref xc) (aW (aj rfl) X.ins cl T.dO rfl) (jU (j:=1) (aj rfl) aV hs rfl) (aU X.jw) (by rw[List.getElem?_map,hxc];rfl)) bA)) ⟨a,xc,z,h,cb,hg,cb[c],rfl,X,I,X.cyls c xc _ hxc hy,List.getElem_mem hc,fun H1 l s1 hl hl1=>?_⟩);refine Y8 (l:=l) (fun Q q=>dH (aj rfl) (aU hl1) _ (by rw[bR];exact q)) (fun H2 s2=>aj rfl) hl1 (by have:=Kd.bB h.keys.length (lN h (Kd.fX cb[c]));have:=I.nk;omega) fun H2 q s2 hq hq2=>?_
     exact aes dn X I (s1.trans s2) (s1.free hq) hq2
end
end Kq
end
section
namespace Kq
open PySem PySem.Spec PyProof.Rows L2 Hk
section
variable {K:PySem.W.Frag}{c:TT}{tb:TS}{D:Ends}{σ:L2.St}{H:Hp}{ta te:TE}
theorem ahI (Pv:Nat→L2.St→Hp→Prop) (n:Nat) (h0:Pv 0 σ H) (ht:∀i σ H,i≤n→Pv i σ H→Tv c σ H (decide (i<n))) (hs:∀i σ H,i<n→Pv i σ H→tb {D with nx:=Pv (i+1),ct:=Pv (i+1),bk:=D.nx} σ H) (hd:∀σ H,Pv n σ H→D.nx σ H):KC c tb D σ H:=by
 refine⟨fun m σ H=>∃i,m=n-i∧i≤n∧Pv i σ H,⟨n,0,rfl,Nat.zero_le _,h0⟩,?_⟩;rintro m σ H ⟨i,rfl,hi,p⟩;refine ht i σ H hi p _ ?_;by_cases hlt:i<n
 ·rw[decide_eq_true hlt]
  exact⟨Pv (i+1),fun σ' H' p'=>⟨n-(i+1),by omega,i+1,rfl,hlt,p'⟩,hs i σ H hlt p⟩
 ·rw[decide_eq_false hlt]
  have e:i=n:=by omega
  subst e;exact hd σ H p
theorem Pk {u:TS}(h:KC c tb {D with nx:=u D} σ H):zf (KC c tb) u D σ H:=h
theorem yW {tb:TE}{x y:Nat}(ha:Ev ta σ H (.int (x:Int))) (hb:Ev tb σ H (.int (y:Int))):Ev (rz (za fun i j=> .int (i+j)) ta tb) σ H (.int ((x+y:Nat):Int)):=fun Q q=>ha _ (hb _ ⟨_,_,rfl,rfl,q⟩)
theorem ahJ {tb:TE}{t:Addr}{xs:List V}{j:Nat}{v:V}(ha:Ev ta σ H (.ref t)) (hb:Ev tb σ H (.int (j:Int))) (ht:Sv K H t xs) (hv:xs[j]?=some v):Ev (rz (rIx K) ta tb) σ H v:=
 fun Q q=>ha _ (hb _ (.inr (.inl ⟨t,xs,_,v,rfl,rfl,ht,S6 hv,q⟩)))
theorem ahK {xs:List V}{k m:Nat}(hk:k≤m) (hm:m≤xs.length):Iz xs (some (k:Int)) (some (m:Int))=(xs.drop k).take (m-k):=by
 unfold Iz;rw[HT.Fy,HT.Fy,Nat.min_eq_left hm,Nat.min_eq_left (show k≤xs.length by omega)]
theorem afa {tl th:TE}{t:Addr}{xs:List V}{k m:Nat}(ha:Ev ta σ H (.ref t)) (hl:Ev tl σ H (.int (k:Int))) (hh:Ev th σ H (.int (m:Int))) (ht:dR K H t xs) (hk:k≤m) (hm:m≤xs.length):∀Q:VK,(∀l,H l=none→Q (.ref l) (upd H l (.lst ((xs.drop k).take (m-k)))))→tSl (ajn K) ta (adG tl) (adG th) σ H Q:=
 fun Q q=>ha _ (hl _ ⟨_,rfl,hh _ ⟨_,rfl,t,xs,rfl,ht,fun l hl'=>by rw[ahK hk hm];exact q l hl'⟩⟩)
end
theorem Vk (l:List Nat):iV (Kd.iz l)=nV l:=by
 show List.map V.int (List.map (fun(n:Nat)=>(n:Int)) l)=_;rw[List.map_map];rfl
theorem vN {C:Addr}{sp:Sp}{E:XK}{t:TA}{σ:L2.St}{H:Hp}{Q:VK}(h:t σ H fun vs H1=>∀x dx,H1 x=none→H1 dx=none→dx≠x→sp (.ref x::(vs++[])) (upd (upd H1 dx (.own x)) x (.ins C dx [])) (fun v H2=>v= .non∧Q (.ref x) H2) E):adE C sp [] E t σ H Q:=h
theorem cu {ta:TE}{tr:TA}{σ:L2.St}{H:Hp}{Q:List V→Hp→Prop}(h:ta σ H fun x H1=>tr σ H1 fun xs H2=>Q (x::xs) H2):gB ta tr σ H Q:=h
theorem cH {ta:TE}{tr:TA}{σ:L2.St}{H:Hp}{Q:List V→Hp→Prop}{x:V}(h:Ev ta σ H x) (r:tr σ H fun xs H2=>Q (x::xs) H2):gB ta tr σ H Q:=h _ r
def CallAt (A:Ad) (H0 H:Hp) (o:Addr) (p:Nat) (w row:List Nat) (n:Nat):Prop:=∃dx lw lr,H o=some (.ins A.qW dx (Mj (.int p) (.ref lw) (.ref lr) (.int n)))∧H lw=some (.lst (nV w))∧H lr=some (.lst (nV row))∧H0 o=none∧H0 lw=none∧H0 lr=none
theorem CallAt.same {A:Ad}{H0 H H':Hp}{o:Addr}{p:Nat}{w row:List Nat}{n:Nat}(h:CallAt A H0 H o p w row n) (s:Same H H'):CallAt A H0 H' o p w row n:=by
 obtain⟨dx,lw,lr,h1,h2,h3,h4⟩:=h;exact⟨dx,lw,lr,s _ _ h1,s _ _ h2,s _ _ h3,h4⟩
theorem CallAt.less {A:Ad}{H0 H1 H:Hp}{o:Addr}{p:Nat}{w row:List Nat}{n:Nat}(h:CallAt A H1 H o p w row n) (s:Same H0 H1):CallAt A H0 H o p w row n:=by
 obtain⟨dx,lw,lr,h1,h2,h3,h4,h5,h6⟩:=h;exact⟨dx,lw,lr,h1,h2,h3,s.free h4,s.free h5,s.free h6⟩
theorem CallAt.free {A:Ad}{H0 H1 H:Hp}{o:Addr}{p:Nat}{w row:List Nat}{n:Nat}(h:CallAt A H1 H o p w row n) (s:∀b,H1 b=none→H0 b=none):CallAt A H0 H o p w row n:=by
 obtain⟨dx,lw,lr,h1,h2,h3,h4,h5,h6⟩:=h;exact⟨dx,lw,lr,h1,h2,h3,s _ h4,s _ h5,s _ h6⟩
theorem CallAt.keep {A:Ad}{H0 H H':Hp}{q o:Addr}{p:Nat}{w row:List Nat}{n:Nat}{u:HO}(h:CallAt A H0 H o p w row n) (hq:H0 q=some u) (kp:Keep H q H'):CallAt A H0 H' o p w row n:=by
 obtain⟨dx,lw,lr,h1,h2,h3,h4,h5,h6⟩:=h;exact⟨dx,lw,lr,kp _ _ h1 (aQ hq h4).symm,kp _ _ h2 (aQ hq h5).symm,kp _ _ h3 (aQ hq h6).symm,h4,h5,h6⟩
section
variable {P:Program}{w:World}{K:PySem.W.Frag}{mg:Str→Option Value}{base:Heap}{A:Ad}
def Xl (A:Ad):Sp:=fun vs H Q _=>∃(p dx:Addr) (x0 x1 x2 x3:V),vs=[.ref p,x0,x1,x2,x3]∧H p=some (.ins A.qW dx [])∧Q .non (upd H p (.ins A.qW dx (Mj x0 x1 x2 x3)))
theorem Jm (T:Txt K mg A):bK P w K mg base cV 1 A.tQ A.qt ["self","number","wholes","row","behind"] (Xl A):=by
 refine T.xu.ok WQ (fun vs H Q E h=>?_) (fun cdv Ar outer s H vs Q E hr h=>?_)
 ·obtain⟨p,dx,x0,x1,x2,x3,rfl,_⟩:=h
  rfl
 ·obtain⟨p,dx,x0,x1,x2,x3,rfl,hp,k⟩:=h
  have c:=T.qY.cl;refine⟨_,(au (dX (pv 0) (pv 1) rfl)
   (au (dX (pv 0) (pv 2) rfl)
   (au (dX (pv 0) (pv 3) rfl)
   (aB (dX (pv 0) (pv 4) rfl))))),?_⟩
  refine lU (aj rfl) (aj rfl) hp c T.bN (by show 0<1000;decide) ?_;refine lU (aj rfl) (aj rfl) aq c T.ju (by show 1<1000;decide) ?_;refine lU (aj rfl) (aj rfl) aq c T.GX (by show 2<1000;decide) ?_;refine HD (aj rfl) (aj rfl) aq c T.GZ (by show 3<1000;decide) ?_;rw[cU,cU,cU];exact k
theorem o7 {H:Hp}{x dx C:Addr}{fs:List (Str×V)}(nx:H x=none) (nd:H dx=none):Same H (upd (upd (upd H dx (.own x)) x (.ins C dx [])) x (.ins C dx fs)):=fun b o e=>by
 rw[cU,aJ (aQ e nx),aJ (aQ e nd)];exact e
def Xm (K:PySem.W.Frag) (A:Ad):Sp:=fun vs H Q _=>∃(a:Addr) (pre post:List Int) (c:List (List Int)) (p:Nat) (w row:List Nat) (x:KhRooms.Call),vs=[.ref a, .int (pre.length:Int)]∧dR K H a (iV (pre++(PyFlat.put1 c++post)))∧Kd.Asks c p w row x∧
 ∀H' o,Same H H'→CallAt A H H' o p w row (pre.length+(PyFlat.put1 c).length)→Q (.ref o) H'
theorem acQ {p n:Nat}(h:Kd.wholesOf[p]?=some n):([.int 7, .int 1, .int 1, .int 6, .int 3, .int 2, .int 1, .int 0, .int 1, .int 2, .int 2, .int 3, .int 4, .int 3, .int 3, .int 2, .int 2, .int 1]:List V)[p]?=some (.int (n:Int)):=by
 have e:([.int 7, .int 1, .int 1, .int 6, .int 3, .int 2, .int 1, .int 0, .int 1, .int 2, .int 2, .int 3, .int 4, .int 3, .int 3, .int 2, .int 2, .int 1]:List V)=nV Kd.wholesOf:=rfl;rw[e,List.getElem?_map,h];rfl
theorem afb (pre:List V) (v:V) (post:List V):(pre++v::post)[pre.length]?=some v:=by
 rw[List.getElem?_append_right (Nat.le_refl _),Nat.sub_self];rfl
theorem acR (pre mid post:List V):((pre++(mid++post)).drop pre.length).take (pre.length+mid.length-pre.length)=mid:=by
 rw[List.drop_append_of_le_length (Nat.le_refl _),List.drop_length,List.nil_append,Nat.add_sub_cancel_left,List.take_append_of_le_length (Nat.le_refl _),List.take_length]
theorem Xn (T:Txt K mg A):bK P w K mg base cV 3 A.wQ A.qu ["numbers","place"] (Xm K A):=by
 refine T.pH.fn.ok qd (fun vs H Q E h=>?_) (fun cdv Ar outer s H vs Q E hr h=>?_)
 ·obtain⟨a,pre,post,c,p,w,row,x,rfl,_⟩:=h
  rfl
 ·obtain⟨a,pre,post,c,p,w,row,x,rfl,hS,as,k⟩:=h
  refine⟨_,(au (bJ (i:=2) qd.nd rfl (by first|exact Or.inl rfl|exact Or.inr rfl) (bG bw (pv 0) (pv 1) (fun _ _=>rfl)))
   (au (bJ (i:=3) qd.nd rfl (by first|exact Or.inl rfl|exact Or.inr rfl) (dw BX (dw BX (pv 1) aO) (bG bw (aY (v:= .ref A.Bo) rfl T.af3 rfl) (pv 2) (fun _ _=>rfl))))
   (au (bJ (i:=4) qd.nd rfl (by first|exact Or.inl rfl|exact Or.inr rfl) (Hw KR (pv 0) (xQ (dw BX (pv 1) aO)) (xQ (pv 3))))
   (au (bU (PW.pt (Ht (bM Ft (pv 2) (aY (v:= .int 1) rfl T.QD ⟨_,rfl⟩) (bD _)) (Ay (bM Ft (pv 2) (aY (v:= .int 2) rfl T.Br ⟨_,rfl⟩) (bD _)))))
    (aB (aL (vo T.qY.mkr (Jm T) (hr.mono (by decide)) rfl T.qY.mg (Mt T) .nil aP (ak (pv 2) (ak (pv 4) (ak (bL ao) (ak (pv 3) ao)))))))
    bC)
   (au (bJ (i:=5) qd.nd rfl (by first|exact Or.inl rfl|exact Or.inr rfl) (dw BX (dw BX (pv 3) aO) (bG bw (pv 0) (pv 3) (fun _ _=>rfl))))
   (aB (aL (vo T.qY.mkr (Jm T) (hr.mono (by decide)) rfl T.qY.mg (Mt T) .nil aP (ak (pv 2) (ak (pv 4) (ak (Hw KR (pv 0) (xQ (dw BX (pv 3) aO)) (xQ (pv 5))) (ak (pv 5) ao)))))))))))),?_⟩
  rw[as.put]at hS k;have eL:iV (pre++(((p:Int)::Kd.iz w++if p=1∨p=2 then(row.length:Int)::Kd.iz row else[])++post))=iV pre++(V.int (p:Int)::(nV w++((if p=1∨p=2 then V.int (row.length:Int)::nV row else[])++iV post))):=by
   rw[show iV (pre++_)=iV pre++iV _ from List.map_append ..,List.append_assoc]
   congr 1
   rw[List.cons_append];show V.int (p:Int)::iV (Kd.iz w++_)=_;rw[show iV (Kd.iz w++_)=iV (Kd.iz w)++iV _ from List.map_append ..,Vk,show iV (_++post)=iV _++iV post from List.map_append ..]
   congr 3
   split
   ·show V.int _::iV (Kd.iz row)=_
    rw[Vk]
   ·rfl
  rw[eL]at hS;have ep:(iV pre).length=pre.length:=List.length_map _;refine nj (bI (j:=pre.length) (v:= .int (p:Int)) (aj rfl) (aj rfl) hS (by rw[←ep];exact afb ..)) ?_;refine nj (yW (yW (y:=1) (aj rfl) aV) (ahJ (j:=p) aV (aj rfl) (T.OD H) (acQ as.len))) ?_;have hlen:(iV pre++(V.int (p:Int)::(nV w++((if p=1∨p=2 then V.int (row.length:Int)::nV row else[])++iV post)))).length=pre.length+1+w.length+((if p=1∨p=2 then V.int (row.length:Int)::nV row else[])++iV post).length:=by
   rw[List.length_append,List.length_cons,List.length_append,ep,bR];omega
  refine afa (k:=pre.length+1) (m:=pre.length+1+w.length) (aj rfl) (yW (y:=1) (aj rfl) aV) (aj rfl) hS (by omega) (by omega) _ fun lw hlw=>?_
  have akn:((iV pre++(V.int (p:Int)::(nV w++((if p=1∨p=2 then V.int (row.length:Int)::nV row else[])++iV post)))).drop (pre.length+1)).take (pre.length+1+w.length-(pre.length+1))=nV w:=by
   have:=acR (iV pre++[V.int (p:Int)]) (nV w) ((if p=1∨p=2 then V.int (row.length:Int)::nV row else[])++iV post);rw[List.length_append,List.length_singleton,ep,bR,List.append_assoc]at this;exact this
  rw[akn];have s1:Same H (upd H lw (.lst (nV w))):=aZ hlw;have hw1:upd H lw (.lst (nV w)) lw=some (.lst (nV w)):=aq;generalize upd H lw (.lst (nV w))=H1 at s1 hw1⊢;have hS1:=s1.seq hS;refine cD (b:=(!decide (p=1))&&(!decide (p=2))) (Tv.and (Ev.cG (HY (x:=p) (y:=1) (aj rfl) aV)) (fun _=>Ev.cG (HY (x:=p) (y:=2) (aj rfl) aV))) (fun e=>?_) (fun e=>?_)
  ·have np:¬(p=1∨p=2):=by
    rw[Bool.and_eq_true,Bool.not_eq_true',Bool.not_eq_true',decide_eq_false_iff_not,decide_eq_false_iff_not]at e;omega
   rw[if_neg np,List.append_nil,List.length_cons,show(Kd.iz w).length=w.length from List.length_map _]at k;have er:=as.ajN np;refine bQ (vN (cH (aj rfl) (cH (aj rfl) (cu ⟨Nat.zero_le _,fun lr hlr=>cH (aj rfl) fun o dx no nd ne=>⟨o,dx,_,_,_,_,rfl,aq,rfl,?_⟩⟩))));have s2:Same H1 (upd H1 lr (.lst [])):=aZ hlr;have s3:=o7 (C:=A.qW) (fs:=Mj (.int p) (.ref lw) (.ref lr) (.int ((pre.length+1+w.length:Nat):Int))) no nd;refine k _ o ((s1.trans s2).trans s3) ⟨dx,lw,lr,?_,s3 _ _ (s2 _ _ hw1),s3 _ _ (by rw[er];exact aq),(s1.trans s2).free no,hlw,s1.free hlr⟩;rw[aq,show pre.length+(w.length+1)=pre.length+1+w.length by omega]
  ·have np:p=1∨p=2:=by
    rw[Bool.and_eq_false_iff,Bool.not_eq_false',Bool.not_eq_false',decide_eq_true_iff,decide_eq_true_iff]at e;exact e
   rw[if_pos np]at hS1 hlen k;rw[List.length_append,List.length_cons,List.length_cons,show(Kd.iz w).length=w.length from List.length_map _,show(Kd.iz row).length=row.length from List.length_map _]at k;refine nj (yW (yW (y:=1) (aj rfl) aV) (bI (j:=pre.length+1+w.length) (v:= .int (row.length:Int)) (aj rfl) (aj rfl) hS1 ?_)) ?_
   ·have:=afb (iV pre++(V.int (p:Int)::nV w)) (V.int (row.length:Int)) (nV row++iV post)
    rw[List.length_append,List.length_cons,ep,bR,List.append_assoc,List.cons_append,show pre.length+(w.length+1)=pre.length+1+w.length by omega]at this;exact this
   ·refine bQ (vN (cH (aj rfl) (cH (aj rfl) (cu (afa (k:=pre.length+1+w.length+1) (m:=pre.length+1+w.length+1+row.length) (aj rfl) (yW (y:=1) (aj rfl) aV) (aj rfl) hS1 (by omega) (by rw[hlen,List.length_append,List.length_cons,bR];omega) _ fun lr hlr=>?_)))))
    have ajT:((iV pre++(V.int (p:Int)::(nV w++((V.int (row.length:Int)::nV row)++iV post)))).drop (pre.length+1+w.length+1)).take (pre.length+1+w.length+1+row.length-(pre.length+1+w.length+1))=nV row:=by
     have:=acR (iV pre++(V.int (p:Int)::(nV w++[V.int (row.length:Int)]))) (nV row) (iV post);rw[List.length_append,List.length_cons,List.length_append,List.length_singleton,ep,bR,bR,List.append_assoc,List.cons_append,List.append_assoc,show pre.length+(w.length+1+1)=pre.length+1+w.length+1 by omega]at this;exact this
    rw[ajT];refine cH (aj rfl) fun o dx no nd ne=>⟨o,dx,_,_,_,_,rfl,aq,rfl,?_⟩
    have s2:Same H1 (upd H1 lr (.lst (nV row))):=aZ hlr;have s3:=o7 (C:=A.qW) (fs:=Mj (.int p) (.ref lw) (.ref lr) (.int ((pre.length+1+w.length+1+row.length:Nat):Int))) no nd;refine k _ o ((s1.trans s2).trans s3) ⟨dx,lw,lr,?_,s3 _ _ (s2 _ _ hw1),s3 _ _ aq,(s1.trans s2).free no,hlw,s1.free hlr⟩;rw[aq,show pre.length+(w.length+1+(row.length+1))=pre.length+1+w.length+1+row.length by omega]
theorem aga {c:List (List Int)}{p:Nat}{w row:List Nat}{x:KhRooms.Call}(as:Kd.Asks c p w row x):1≤(PyFlat.put1 c).length:=by
 rw[as.put,List.length_append,List.length_cons];omega
theorem ai0 {cs:List (List (List Int))}(h:∀c∈cs,∃p w row x,Kd.Asks c p w row x){i:Nat}(hi:i<cs.length):(PyFlat.put (cs.take i)).length<(PyFlat.put cs).length:=by
 have e:cs[i]?=some cs[i]:=List.getElem?_eq_getElem hi;have e2:PyFlat.put cs=PyFlat.put (cs.take i)++PyFlat.put (cs.drop i):=by
  rw[←Kd.Ug,List.take_append_drop]
 obtain⟨p,w,row,x,as⟩:=h cs[i] (List.getElem_mem hi);have e3:PyFlat.put (cs.drop i)=PyFlat.put1 cs[i]++PyFlat.put (cs.drop (i+1)):=by
  rw[List.drop_eq_getElem_cons hi];rfl
 rw[e2,e3,List.length_append,List.length_append];have:=aga as;omega
def acS (A:Ad) (H0 H:Hp) (os:List Addr) (cs:List (List (List Int))):Prop:=∀(j:Nat) o c,os[j]?=some o→cs[j]?=some c→∃p w row x n,Kd.Asks c p w row x∧CallAt A H0 H o p w row n
def Vl (K:PySem.W.Frag) (A:Ad):Sp:=fun vs H Q _=>∃(a:Addr) (cs:List (List (List Int))),vs=[.ref a]∧dR K H a (iV (PyFlat.put cs))∧cs.length≤400∧(∀c∈cs,∃p w row x,Kd.Asks c p w row x)∧
 ∀H' l os,Same H H'→H l=none→H' l=some (.lst (rV os))→os.length=cs.length→acS A H H' os cs→Q (.ref l) H'
theorem Vm (T:Txt K mg A):bK P w K mg base cV 4 A.u5 A.oM ["numbers"] (Vl K A):=by
 refine T.mY.fn.ok oF (fun vs H Q E h=>?_) (fun cdv Ar outer s H vs Q E hr h=>?_)
 ·obtain⟨a,cs,rfl,_⟩:=h
  rfl
 ·obtain⟨a,cs,rfl,hS,hn,has,k⟩:=h
  refine⟨_,(au (bJ (i:=1) oF.nd rfl (by first|exact Or.inl rfl|exact Or.inr rfl) (bL ao))
   (au (bJ (i:=2) oF.nd rfl (by first|exact Or.inl rfl|exact Or.inr rfl) aO)
   (au (Nz PassesOwn.never (bM Fv (pv 2) (bH cA (by rfl) T.fK dG (ak (pv 0) ao)) (bD _))
    (au (bJ (i:=3) oF.nd rfl (by first|exact Or.inl rfl|exact Or.inr rfl) (aH (Xn T) (hr.mono (by decide)) rfl T.pH.mg T.pH.fn.kp (aax T) .nil aP (ak (pv 0) (ak (pv 2) ao))))
    (au (iH (rA PySem.F.plainAttrs_list PySem.F.slot_list_append PySem.F.type_list_append fW (pv 1) (ak (pv 3) ao)))
    (aB (bJ (i:=2) oF.nd rfl (by first|exact Or.inl rfl|exact Or.inr rfl) (aN (pv 3) rfl))))))
   (aB (aL (pv 1)))))),?_⟩
  refine dF ⟨Nat.zero_le _,fun r hr0=>?_⟩;refine nj aV ?_;have s1:Same H (upd H r (.lst [])):=aZ hr0;have hr1:upd H r (.lst []) r=some (.lst []):=aq;generalize hH1:upd H r (.lst [])=H1 at s1 hr1⊢;refine Pk (ahI (fun i σ H'=>∃v3 os,σ=[some (.ref a),some (.ref r),some (.int ((PyFlat.put (cs.take i)).length:Int)),v3]∧Same H H'∧H' r=some (.lst (rV os))∧os.length=i∧acS A H1 H' os cs) cs.length ?_ ?_ ?_ ?_)
  ·exact⟨none,[],rfl,s1,hr1,rfl,fun j o c h=>by simp at h⟩
  ·rintro i σ H' hi ⟨v3,os,rfl,s2,hr2,ho,hc⟩
   have e:decide ((PyFlat.put (cs.take i)).length<(iV (PyFlat.put cs)).length)=decide (i<cs.length):=by
    rw[List.length_map];refine b2 ⟨fun g=>?_,fun g=>ai0 has g⟩;apply Classical.byContradiction;intro n;rw[List.take_of_length_le (by omega)]at g;omega
   rw[←e];exact Ev.cG (MK (aj rfl) (dH (aj rfl) (s2.seq hS)))
  ·rintro i σ H' hi ⟨v3,os,rfl,s2,hr2,ho,hc⟩
   have hci:cs[i]?=some cs[i]:=List.getElem?_eq_getElem hi;obtain⟨p,w,row,x,as⟩:=has cs[i] (List.getElem_mem hi);have e2:PyFlat.put cs=PyFlat.put (cs.take i)++(PyFlat.put1 cs[i]++PyFlat.put (cs.drop (i+1))):=by
    conv=>lhs;rw[←List.take_append_drop i cs,Kd.Ug,List.drop_eq_getElem_cons hi]
    rfl
   have hS2:=s2.seq hS;rw[e2]at hS2;refine dF (bx (aA (aj rfl) (aA (aj rfl) bA)) ⟨a,_,_,cs[i],p,w,row,x,rfl,hS2,as,fun H2 o s3 hco=>?_⟩);refine Ef (aj rfl) (aj rfl) (s3 _ _ hr2) (cB (by rw[List.length_map];omega)) ?_;have kp:Keep H2 r (upd H2 r (.lst (rV os++[.ref o]))):=cC;have ako:=hco.keep hr2 kp;obtain⟨dx,lw,lr,g1,g2,g3,g4⟩:=ako;refine aW (aj rfl) g1 T.qY.cl T.GZ rfl _ ⟨_,os++[o],by rw[Kd.take_snoc hci,Kd.YM,List.length_append];rfl,?_,?_,?_,?_⟩
   ·exact jd (s2.trans s3) hr0
   ·rw[aq]
    show some (HO.lst (rV os++[.ref o]))=some (.lst (rV (os++[o])));rw[show rV (os++[o])=rV os++[.ref o]from List.map_append ..]
   ·rw[List.length_append,ho]
    rfl
   ·intro j o' c' h1 h2
    rcases cX h1 with⟨q1,q2⟩|⟨q1,q2⟩
    ·obtain⟨p',w',akp,x',n',as',hc'⟩:=hc j o' c' q2 h2
     exact⟨p',w',akp,x',n',as',(hc'.same s3).keep hr1 kp⟩
    ·rw[ho]at q1
     subst q1 q2;rw[hci]at h2;cases h2;refine⟨p,w,row,x,_,as,(hco.keep hr2 kp).free fun b e=>?_⟩;rw[←hH1];by_cases cb:b=r
     ·subst cb
      rw[hr2]at e;cases e
     ·rw[aJ cb]
      exact s2.free e
  ·rintro σ H' ⟨v3,os,rfl,s2,hr2,ho,hc⟩
   exact⟨_,rfl,k H' r os s2 hr0 hr2 ho fun j o c h1 h2=>by
    obtain⟨p,w,row,x,n,as,hc'⟩:=hc j o c h1 h2;exact⟨p,w,row,x,n,as,hc'.less s1⟩⟩
end
end Kq
end
section
namespace Kq
open PySem PySem.Spec PyProof.Rows L2 Hk
def Opened (A:Ad) (H:Hp) (d dd:Addr) (Q:VK) (m:Kh.Make) (R:Nat):Prop:=
 (m.ok=true∧1≤R∧R≤24→∀H' a z l,bh A H' a z ⟨m,[],[],[],R,[]⟩ [] []→H' d=some (.ins A.gw dd (jL (.ref a)))→Keep H d H'→(∀t∈Ts z,H t=none)→H l=none→H' l=some (.lst [.int 0])→Q (.ref l) H')∧
 (¬(m.ok=true∧1≤R∧R≤24)→∀H' l,Same H H'→H l=none→H' l=some (.lst [.int (-1)])→Q (.ref l) H')
section
variable {P:Program}{w:World}{K:PySem.W.Frag}{mg:Str→Option Value}{base:Heap}{A:Ad}
def Rm (A:Ad):Sp:=fun vs H Q _=>∃(d dd aM:Addr) (v:V) (m:Kh.Make) (R:Nat),vs=[.ref d, .ref aM, .int R]∧H d=some (.ins A.gw dd (jL v))∧pO A H aM m∧Opened A H d dd Q m R
theorem Rn (T:Txt K mg A):bK P w K mg base cV 3 A.tH A.mH ["desk","make","rooms"] (Rm A):=by
 refine T.lu.fn.ok QW (fun vs H Q E h=>?_) (fun cdv Ar outer s H vs Q E hr h=>?_)
 ·obtain⟨d,dd,aM,v,m,R,rfl,_⟩:=h
  rfl
 ·obtain⟨d,dd,aM,v,m,R,rfl,hd,hM,op⟩:=h
  refine⟨_,(au (bU (PW.pt (Jr (gq (dj (aH (acJ T) (hr.mono (by decide)) rfl T.uL.mg T.uL.fn.kp (aeh T) .nil aP (ak (pv 1) ao)))) (Jr (bM dW (pv 2) aO (bD _)) (Hr (bM adA (pv 2) (aY (v:= .int 24) rfl T.WX ⟨_,rfl⟩) (bD _))))))
    (aB (aL (bL (ak (aY (v:= .int (-1)) rfl T.rF ⟨_,rfl⟩) ao))))
    bC)
   (au (dX (pv 0) (vo T.d9.mkr (Vf T) (hr.mono (by decide)) rfl T.d9.mg (W5 T) .nil aP (ak (pv 1) (ak (pv 2) ao))) rfl)
   (aB (aL (bL (ak aO ao)))))),?_⟩
  refine cD (Tv.or (Tv.not (Ev.cJ (Ia (aj rfl) fun Q q=>⟨aM,m,rfl,hM,q⟩))) (fun _=>Tv.or (Ev.cG (dh (x:=R) (y:=0) (aj rfl) aV)) (fun _=>Ev.cG (aaF (x:=R) (y:=24) (aj rfl) aV)))) (fun e=>?_) (fun e=>?_)
  ·rw[Bool.or_eq_true,Bool.or_eq_true,Bool.not_eq_true',decide_eq_true_iff,decide_eq_true_iff]at e
   refine pP aV fun l hl=>op.2 (fun g=>?_) _ l (aZ hl) hl aq
   rcases e with e|e|e
   ·rw[g.1]at e
    cases e
   ·omega
   ·omega
  ·rw[Bool.or_eq_false_iff,Bool.or_eq_false_iff,Bool.not_eq_false',decide_eq_false_iff_not,decide_eq_false_iff_not]at e
   refine⟨_,rfl,_,rfl,fun x dx nx ndx ne=>⟨x,dx,_,_,rfl,aq,fun H2 aK aC aD aS aG N=>⟨rfl,_,rfl,d,A.gw,dd,jL v,rfl,?_,T.DX.cl,T.ni,(by show 1<1000;decide),?_⟩⟩⟩
   ·refine N.keep _ _ ?_ (aQ hd nx)
    rw[aJ (aQ hd nx),aJ (aQ hd ndx)];exact hd
   ·have kH:∀b o,H b=some o→H2 b=some o:=fun b o eb=>by
     refine N.keep _ _ ?_ (aQ eb nx);rw[aJ (aQ eb nx),aJ (aQ eb ndx)];exact eb
    have fr:∀t∈[aK,aC,aD,aS,aG],H t=none:=fun t mt=>by
     have:=N.free t mt;cases q:H t with
     |none=>rfl
     |some o=>
      rw[aJ (aQ q nx),aJ (aQ q ndx),q]at this;cases this
    have nd:∀t∈[aK,aC,aD,aS,aG],t≠d:=fun t mt q=>by
     have:=fr t mt;rw[q,hd]at this;cases this
    have xd:x≠d:=fun q=>by rw[q,hd]at nx;cases nx
    have kp:Keep H2 d (upd H2 d (.ins A.gw dd (bF "house" (.ref x) (jL v)))):=cC;obtain⟨dm,hm⟩:=hM;have md:aM≠d:=by
     intro q;rw[q,hd]at hm;injection hm with hm
     injection hm with _ _ e3
     have:=congrArg List.length e3;simp at this
    have X:bh A (upd H2 d (.ins A.gw dd (bF "house" (.ref x) (jL v)))) x ⟨dx,aM,aK,aC,aD,aS,aG,[],[],[],[]⟩ ⟨m,[],[],[],R,[]⟩ [] []:=
     ⟨kp _ _ N.ins xd,⟨dm,kp _ _ (kH _ _ hm) md⟩,kp _ _ N.lK (nd _ (by simp)),rfl,fun i x k h=>by simp at h,kp _ _ N.lC (nd _ (by simp)),rfl,fun i x k h=>by simp at h,kp _ _ N.lD (nd _ (by simp)),rfl,fun i x k h=>by simp at h,
      kp _ _ N.lS (nd _ (by simp)),rfl,fun i x k h=>by simp at h,kp _ _ N.lG (nd _ (by simp)),N.nd⟩
    refine⟨by show 1≤sizeLine;decide,fun l hl=>?_⟩;refine op.1 ⟨e.1,by omega,by omega⟩ _ x ⟨dx,aM,aK,aC,aD,aS,aG,[],[],[],[]⟩ l (X.same (aZ hl)) ?_ (fun b o eb nb=>?_) (fun t mt=>fr t mt) ?_ aq
    ·rw[aJ (aQ aq hl),aq]
     rfl
    ·exact aZ hl _ _ (kp _ _ (kH _ _ eb) nb)
    ·cases q:H l with
     |none=>rfl
     |some o=>
      by_cases ld:l=d
      ·rw[ld,aq]at hl
       cases hl
      ·rw[aJ ld,kH _ _ q]at hl
       cases hl
def Pn (A:Ad):Sp:=fun vs H Q _=>∃(d dd lw:Addr) (v:V) (m:Kh.Make) (R:Nat),vs=[.ref d, .ref lw]∧H d=some (.ins A.gw dd (jL v))∧H lw=some (.lst (nV [m.n,m.depths,m.step,m.pin,m.kinds,m.run,R]))∧Opened A H d dd Q m R
theorem Opened.less {A:Ad}{H H1:Hp}{d dd:Addr}{Q:VK}{m:Kh.Make}{R:Nat}(s:Same H H1) (o:Opened A H d dd Q m R):Opened A H1 d dd Q m R:=
 ⟨fun c H' a z l X hd kp fr hl hl'=>o.1 c H' a z l X hd (fun b u e n=>kp b u (s _ _ e) n) (fun t mt=>s.free (fr t mt)) (s.free hl) hl',fun c H' l s' hl hl'=>o.2 c H' l (s.trans s') (s.free hl) hl'⟩
theorem Pq (T:Txt K mg A):bK P w K mg base cV 4 A.qU A.kZ ["desk","wholes"] (Pn A):=by
 refine T.jH.fn.ok Bl (fun vs H Q E h=>?_) (fun cdv Ar outer s H vs Q E hr h=>?_)
 ·obtain⟨d,dd,lw,v,m,R,rfl,_⟩:=h
  rfl
 ·obtain⟨d,dd,lw,v,m,R,rfl,hd,hw,op⟩:=h
  refine⟨_,(au (bJ (i:=2) Bl.nd rfl (by first|exact Or.inl rfl|exact Or.inr rfl) (vo T.xG.mkr (Xf T) (hr.mono (by decide)) rfl T.xG.mg (aat T) .nil aP (ak (bG bw (pv 1) aO (fun _ _=>rfl)) (ak (bG bw (pv 1) aO (fun _ _=>rfl)) (ak (bG bw (pv 1) aO (fun _ _=>rfl)) (ak (bG bw (pv 1) aO (fun _ _=>rfl)) (ak (bG bw (pv 1) aO (fun _ _=>rfl)) (ak (bG bw (pv 1) aO (fun _ _=>rfl)) ao))))))))
   (aB (aL (aH (Rn T) (hr.mono (by decide)) rfl T.lu.mg T.lu.fn.kp (U0 T) .nil aP (ak (pv 0) (ak (pv 2) (ak (bG bw (pv 1) aO (fun _ _=>rfl)) ao))))))),?_⟩
  refine dF (vN (cH (bI (j:=0) (aj rfl) aV (aU hw) rfl) (cH (bI (j:=1) (aj rfl) aV (aU hw) rfl) (cH (bI (j:=2) (aj rfl) aV (aU hw) rfl) (cH (bI (j:=3) (aj rfl) aV (aU hw) rfl) (cH (bI (j:=4) (aj rfl) aV (aU hw) rfl) (cH (bI (j:=5) (aj rfl) aV (aU hw) rfl)
   fun x dx nx ndx ne=>⟨x,dx,_,_,_,_,_,_,rfl,aq,rfl,?_⟩)))))))
  have s1:=o7 (C:=A.lZ) (fs:=Mi (.int m.n) (.int m.depths) (.int m.step) (.int m.pin) (.int m.kinds) (.int m.run)) nx ndx;have hM:pO A (upd (upd (upd H dx (.own x)) x (.ins A.lZ dx [])) x (.ins A.lZ dx (Mi (.int m.n) (.int m.depths) (.int m.step) (.int m.pin) (.int m.kinds) (.int m.run)))) x m:=⟨dx,aq⟩;refine bQ (bx (aA (aj rfl) (aA (aj rfl) (aA (bI (j:=6) (aj rfl) aV (aU (s1 _ _ hw)) rfl) bA))) ⟨d,dd,x,v,m,R,rfl,s1 _ _ hd,hM,op.less s1⟩)
def Ro (A:Ad):Sp:=fun vs H Q _=>∃(a lw:Addr) (z:lM) (h:Kh.House) (cb:List (Nat×List Nat)) (hg:List (Nat×Nat)) (p q k c l d:Nat) (r:Kh.House×KhRooms.Answer),vs=[.ref a, .ref lw]∧bh A H a z h cb hg∧Kd.bV h cb hg∧
 H lw=some (.lst (nV [p,q,k,c,l,d]))∧KhRooms.made h (.door p q k c l d)=some r∧Done A H a z Q r.1 (HouseNeutral.told r.2)
theorem Done.less {A:Ad}{H H1:Hp}{a:Addr}{z:lM}{Q:VK}{h':Kh.House}{out:List Int}(s:Same H H1) (d:Done A H a z Q h' out):Done A H1 a z Q h' out:=
 fun H' l z' Xi hg' X I e kp hl hl'=>d H' l z' Xi hg' X I e (fun b o eb n=>kp b o (s _ _ eb) n) (s.free hl) hl'
theorem G8 {ta tb:TE}{u:TS}{D:Ends}{σ:L2.St}{H:Hp}{i:Nat}{x y:V}(ha:Ev ta σ H x) (hb:Ev tb σ H y) (k:∀t,H t=none→u D (σ.set i (some (.ref t))) (upd H t (.tup [x,y]))):zf (Qi (agK (gB ta (gB tb pR))) (pU i)) u D σ H:=
 ha _ (hb _ ⟨by show 2≤sizeLine;decide,k⟩)
theorem Rp (T:Txt K mg A):bK P w K mg base cV 3 A.tY A.mU ["house","wholes"] (Ro A):=by
 refine T.lF.fn.ok qL (fun vs H Q E h=>?_) (fun cdv Ar outer s H vs Q E hr h=>?_)
 ·obtain⟨a,lw,z,h,cb,hg,p,q,k,c,l,d,r,rfl,_⟩:=h
  rfl
 ·obtain⟨a,lw,z,h,cb,hg,p,q,k,c,l,d,r,rfl,X,I,hw,hm,dn⟩:=h
  refine⟨_,(au (bJ (i:=2) qL.nd rfl (by first|exact Or.inl rfl|exact Or.inr rfl) (Ca (ak (bG bw (pv 1) aO (fun _ _=>rfl)) (ak (bG bw (pv 1) aO (fun _ _=>rfl)) ao))))
   (au (bJ (i:=3) qL.nd rfl (by first|exact Or.inl rfl|exact Or.inr rfl) (Ca (ak (bG bw (pv 1) aO (fun _ _=>rfl)) (ak (bG bw (pv 1) aO (fun _ _=>rfl)) ao))))
   (au (bJ (i:=4) qL.nd rfl (by first|exact Or.inl rfl|exact Or.inr rfl) (Ca (ak (bG bw (pv 1) aO (fun _ _=>rfl)) (ak (bG bw (pv 1) aO (fun _ _=>rfl)) ao))))
   (aB (aL (aH (aaI T) (hr.mono (by decide)) rfl T.rN.mg T.rN.fn.kp (acD T) .nil aP (ak (pv 0) (ak (pv 2) (ak (pv 3) (ak (pv 4) ao)))))))))),?_⟩
  refine G8 (bI (j:=0) (aj rfl) aV (aU hw) rfl) (bI (j:=1) (aj rfl) aV (aU hw) rfl) fun t1 n1=>?_
  have s1:Same H (upd H t1 (.tup [.int p, .int q])):=aZ n1;have h1:upd H t1 (.tup [.int p, .int q]) t1=some (.tup [.int p, .int q]):=aq;generalize upd H t1 (.tup [.int p, .int q])=H1 at s1 h1⊢;refine G8 (bI (j:=2) (aj rfl) aV (aU (s1 _ _ hw)) rfl) (bI (j:=3) (aj rfl) aV (aU (s1 _ _ hw)) rfl) fun t2 n2=>?_
  have s2:Same H1 (upd H1 t2 (.tup [.int k, .int c])):=aZ n2;have h2:upd H1 t2 (.tup [.int k, .int c]) t2=some (.tup [.int k, .int c]):=aq;generalize upd H1 t2 (.tup [.int k, .int c])=H2 at s2 h2⊢;have s12:=s1.trans s2;refine G8 (bI (j:=4) (aj rfl) aV (aU (s12 _ _ hw)) rfl) (bI (j:=5) (aj rfl) aV (aU (s12 _ _ hw)) rfl) fun t3 n3=>?_
  have s3:Same H2 (upd H2 t3 (.tup [.int l, .int d])):=aZ n3;have s13:=s12.trans s3;exact bQ (bx (aA (aj rfl) (aA (aj rfl) (aA (aj rfl) (aA (aj rfl) bA)))) ⟨a,t1,t2,t3,z,h,cb,hg,p,q,k,c,l,d,r,rfl,X.same s13,I,s3 _ _ (s2 _ _ h1),s3 _ _ h2,aq,hm,dn.less s13⟩)
end
end Kq
end
section
namespace Kq
open PySem PySem.Spec PyProof.Rows L2 Hk Hs
def Vn (A:Ad) (H:Hp) (x:Addr) (p:Kd.Pg):Prop:=∃dx,H x=some (.ins A.iB dx (zu (.int p.side) (.int p.behind) (.bl p.free) (.int p.turners)))
def Am (A:Ad) (H:Hp) (l:Addr) (ps:List Kd.Pg):Prop:=∃xs,H l=some (.lst (rV xs))∧xs.length=ps.length∧∀(i:Nat) x p,xs[i]?=some x→ps[i]?=some p→Vn A H x p
def Jo (A:Ad) (H:Hp) (b:Addr) (pb:List (List Kd.Pg)):Prop:=∃ls,H b=some (.lst (rV ls))∧ls.length=pb.length∧∀(i:Nat) l ps,ls[i]?=some l→pb[i]?=some ps→Am A H l ps
theorem Vn.same {A:Ad}{H H':Hp}{x:Addr}{p:Kd.Pg}(h:Vn A H x p) (s:Same H H'):Vn A H' x p:=by
 obtain⟨dx,h⟩:=h;exact⟨dx,s _ _ h⟩
theorem Am.same {A:Ad}{H H':Hp}{l:Addr}{ps:List Kd.Pg}(h:Am A H l ps) (s:Same H H'):Am A H' l ps:=by
 obtain⟨xs,h1,h2,h3⟩:=h;exact⟨xs,s _ _ h1,h2,fun i x p e1 e2=>(h3 i x p e1 e2).same s⟩
theorem Jo.same {A:Ad}{H H':Hp}{b:Addr}{pb:List (List Kd.Pg)}(h:Jo A H b pb) (s:Same H H'):Jo A H' b pb:=by
 obtain⟨xs,h1,h2,h3⟩:=h;exact⟨xs,s _ _ h1,h2,fun i x p e1 e2=>(h3 i x p e1 e2).same s⟩
section
variable {K:PySem.W.Frag}{ta tb:TE}{σ:L2.St}{H:Hp}
theorem aaN {k:Nat}(ha:Ev ta σ H (.int 1)) (hb:Ev tb σ H (.int (k:Int))) (hk:k≤1000000):Ev (rz (rI agD fun i j=> .int (i*2^j.toNat)) ta tb) σ H (.int ((2^k:Nat):Int)):=
 fun Q q=>ha _ (hb _ ⟨1,(k:Int),rfl,rfl,⟨Int.natCast_nonneg _,by omega,by decide⟩,by
  show Q (V.int (1*2^((k:Int)).toNat)) H;rw[Int.one_mul,Int.toNat_natCast];rw[show((2:Int)^k)=((2^k:Nat):Int) by simp];exact q⟩)
theorem Y9 {n:Nat}(ha:Ev ta σ H (.int (n:Int))) (hb:Ev tb σ H (.int 2)):Ev (rz (rI aji fun i j=> .int (i/j)) ta tb) σ H (.int ((n/2:Nat):Int)):=
 fun Q q=>ha _ (hb _ ⟨(n:Int),2,rfl,rfl,⟨by decide,by decide⟩,by
  show Q (V.int ((n:Int)/2)) H;rw[show((n:Int)/2)=((n/2:Nat):Int) by omega];exact q⟩)
theorem acT {n:Nat}(ha:Ev ta σ H (.int (n:Int))) (hb:Ev tb σ H (.int 2)):Ev (rz (rI (fun _ j=>0<j) fun i j=> .int (i%j)) ta tb) σ H (.int ((n%2:Nat):Int)):=
 fun Q q=>ha _ (hb _ ⟨(n:Int),2,rfl,rfl,(by decide:(0:Int)<2),by
  show Q (V.int ((n:Int)%2)) H;rw[show((n:Int)%2)=((n%2:Nat):Int) by omega];exact q⟩)
theorem ahL {x y:Nat}(ha:Ev ta σ H (.int (x:Int))) (hb:Ev tb σ H (.int (y:Int))) (hxy:y≤x):Ev (rz (za fun i j=> .int (i-j)) ta tb) σ H (.int ((x-y:Nat):Int)):=
 fun Q q=>ha _ (hb _ ⟨_,_,rfl,rfl,by
  show Q (V.int ((x:Int)-(y:Int))) H;rw[show((x:Int)-(y:Int))=((x-y:Nat):Int) by omega];exact q⟩)
theorem acU {x y:Nat}(ha:Ev ta σ H (.int (x:Int))) (hb:Ev tb σ H (.int (y:Int))):Ev (rz (za fun i j=> .int (Builtin.bitAnd i j)) ta tb) σ H (.int ((x&&&y:Nat):Int)):=
 fun Q q=>ha _ (hb _ ⟨_,_,rfl,rfl,by
  show Q (V.int (Builtin.bitAnd (x:Int) (y:Int))) H;rw[zH];exact q⟩)
theorem ai1 {ns:List Int}{t:TE}(h:El t σ H (ns.map V.int)):Eg (tCB (ajo K) (gB t pR)) σ H (.int ns.sum):=fun Q k=>h _ fun H' D s hD hl=>⟨D,ns,rfl,dR.of hl,k H' s⟩
end
theorem agb (l:List Nat):(l.map fun n=>((2^n:Nat):Int)).sum=((Kd.gF l:Nat):Int):=by
 unfold Kd.gF
 induction l with
 |nil=>rfl
 |cons a l ih=>
  rw[List.map_cons,List.map_cons,List.sum_cons,List.sum_cons,ih];omega
section
variable {P:Program}{w:World}{K:PySem.W.Frag}{mg:Str→Option Value}{base:Heap}{A:Ad}
def Pr (A:Ad):Sp:=fun vs H Q _=>∃(p dx:Addr) (x0 x1 x2 x3:V),vs=[.ref p,x0,x1,x2,x3]∧H p=some (.ins A.iB dx [])∧Q .non (upd H p (.ins A.iB dx (zu x0 x1 x2 x3)))
theorem Bw (T:Txt K mg A):bK P w K mg base cV 1 A.mK A.kJ ["self","side","behind","is_free","turners"] (Pr A):=by
 refine T.qX.ok Oq (fun vs H Q E h=>?_) (fun cdv Ar outer s H vs Q E hr h=>?_)
 ·obtain⟨p,dx,x0,x1,x2,x3,rfl,_⟩:=h
  rfl
 ·obtain⟨p,dx,x0,x1,x2,x3,rfl,hp,k⟩:=h
  have c:=T.iG.cl;refine⟨_,(au (dX (pv 0) (pv 1) rfl)
   (au (dX (pv 0) (pv 2) rfl)
   (au (dX (pv 0) (pv 3) rfl)
   (aB (dX (pv 0) (pv 4) rfl))))),?_⟩
  refine lU (aj rfl) (aj rfl) hp c T.qZ (by show 0<1000;decide) ?_;refine lU (aj rfl) (aj rfl) aq c T.fJ (by show 1<1000;decide) ?_;refine lU (aj rfl) (aj rfl) aq c T.yR (by show 2<1000;decide) ?_;refine HD (aj rfl) (aj rfl) aq c T.yS (by show 3<1000;decide) ?_;rw[cU,cU,cU];exact k
def acV:Sp:=fun vs H Q _=>∃(a:Addr) (l:List Nat),vs=[.ref a]∧H a=some (.lst (nV l))∧l.length≤1000∧(∀n∈l,n≤1000)∧∀H',Same H H'→Q (.int (Kd.gF l:Nat)) H'
theorem acW (T:Txt K mg A):bK P w K mg base cV 1 A.Du A.vJ ["numbers"] acV:=by
 refine T.uN.fn.ok Gz (fun vs H Q E h=>?_) (fun cdv Ar outer s H vs Q E hr h=>?_)
 ·obtain⟨a,l,rfl,_⟩:=h
  rfl
 ·obtain⟨a,l,rfl,ha,hl,hb,k⟩:=h
  refine⟨_,(aB (aL (bH (aiu rfl) (by rfl) T.ajR aiS (ak (pW rfl Gz.nd (iI (pv 0)) (gP (N:=["numbers","number"]) (sc:=aF Dd) (own:=[("number",1)]) rfl (by decide+kernel)) (fun _ _ _ _ _=>(cO (i:=1) Gz.nd rfl (by first|exact Or.inl rfl|exact Or.inr rfl))) (fun _ _ _ _ _=>nZ) (fun _ _ _ _ _=>(dw Zm aO (pv 1)))) ao)))),?_⟩;rw[←agb]at k;refine ae4 (ai1 (Bh (xs:=nV l) (aj rfl) (aU ha) (by rw[bR];omega) (by simp) (fun _=>rfl) fun j x y H' hx hy s=>Ev.eg ?_)) k;obtain⟨n,hn,rfl⟩:=ug hx;rw[List.getElem?_map,List.getElem?_map,hn]at hy;have hy:V.int ((2^n:Nat):Int)=y:=Option.some.inj hy;rw[←hy];exact aaN aV (aj rfl) (by have:=hb n (List.mem_of_getElem? hn);omega)
def xP (h:Kh.House) (cb:List (Nat×List Nat)):List Nat:=cb.map fun c=>Kd.gF ((List.range h.keys.length).filter (lN h (Kd.fX c)))
theorem agc {h:Kh.House}{cb:List (Nat×List Nat)}{hg:List (Nat×Nat)}(I:Kd.bV h cb hg){n c:Nat}{y:Nat×List Nat}(hx:h.side n=some (.locked c)) (hy:cb[c]?=some y):h.opens n=(List.range h.keys.length).filter (lN h (Kd.fX y)):=by
 unfold Kh.House.opens;rw[hx];show(match h.cyls[c]? with
  |some y=>(List.range h.keys.length).filter fun(k:Nat)=>(h.keys[k]?).any fun(x:Kh.Key)=>Kh.turns x y
  |none=>[])=_
 rw[I.cyls,List.getElem?_map,hy];rfl
theorem aeu {h:Kh.House}{cb:List (Nat×List Nat)}{hg:List (Nat×Nat)}(I:Kd.bV h cb hg){n c:Nat}(hn:n<2*h.doors.length) (hx:h.side n=some (.locked c)):c<cb.length:=by
 obtain⟨x,d,hx',md,xd⟩:=J7 hn;rw[hx]at hx';cases hx';have ok:Kh.sideOk cb.length (.locked c)=true:=by
  have:=I.sides d md;rcases xd with q|q
  ·rw[q];exact this.1
  ·rw[q];exact this.2
 exact of_decide_eq_true ok
def Vo (A:Ad):Sp:=fun vs H Q _=>∃(a lt:Addr) (z:lM) (h:Kh.House) (cb:List (Nat×List Nat)) (hg:List (Nat×Nat)) (n:Nat),vs=[.ref a, .ref lt, .int n]∧bh A H a z h cb hg∧Kd.bV h cb hg∧H lt=some (.lst (nV (xP h cb)))∧n<2*h.doors.length∧
 ∀H' x,Same H H'→H x=none→Vn A H' x (Kd.Jc h n)→Q (.ref x) H'
theorem Vp (T:Txt K mg A):bK P w K mg base cV 3 A.u6 A.oN ["house","turners","number"] (Vo A):=by
 refine T.mZ.fn.ok sO (fun vs H Q E h=>?_) (fun cdv Ar outer s H vs Q E hr h=>?_)
 ·obtain⟨a,lt,z,h,cb,hg,n,rfl,_⟩:=h
  rfl
 ·obtain⟨a,lt,z,h,cb,hg,n,rfl,X,I,hlt,hn,k⟩:=h
  have cl:=T.d9.cl;refine⟨_,(au (bJ (i:=3) sO.nd rfl (by first|exact Or.inl rfl|exact Or.inr rfl) (bG bw (aN (pv 0) rfl) (pv 2) (fun _ _=>rfl)))
   (au (bJ (i:=4) sO.nd rfl (by first|exact Or.inl rfl|exact Or.inr rfl) (bG bw (aN (pv 0) rfl) (dw abx (pv 2) aO) (fun _ _=>rfl)))
   (au (bJ (i:=5) sO.nd rfl (by first|exact Or.inl rfl|exact Or.inr rfl) (bG bw (pv 4) (dw BZ aO (dw aeS (pv 2) aO)) (fun _ _=>rfl)))
   (au (bU (bM dW (bG bw (pv 3) aO (fun _ _=>rfl)) (aY (v:= .int 1) rfl T.HX ⟨_,rfl⟩) (bD _))
    (aB (aL (vo T.iG.mkr (Bw T) (hr.mono (by decide)) rfl T.iG.mg (Fb T) .nil aP (ak (pv 2) (ak (pv 5) (ak Jq (ak (bG bw (pv 1) (bG bw (pv 3) aO (fun _ _=>rfl)) (fun _ _=>rfl)) ao)))))))
    bC)
   (aB (aL (vo T.iG.mkr (Bw T) (hr.mono (by decide)) rfl T.iG.mg (Fb T) .nil aP (ak (pv 2) (ak (pv 5) (ak (eY dW (bG bw (pv 3) aO (fun _ _=>rfl)) (aY (v:= .int 0) rfl T.ae8 ⟨_,rfl⟩) (bD _)) (ak aO ao))))))))))),?_⟩
  obtain⟨x,d,hx,md,xd⟩:=J7 hn;obtain⟨t,ht⟩:∃t,z.ss[n]?=some t:=⟨z.ss[n]'(by rw[X.jT];exact hn),List.getElem?_eq_getElem _⟩
  have hs:=X.sides n t x ht hx;obtain⟨dd,ed,mdd⟩:=Kd.xV hn;obtain⟨u,hu'⟩:∃u,z.ds[n/2]?=some u:=⟨z.ds[n/2]'(by rw[X.mD];omega),List.getElem?_eq_getElem _⟩
  have he:=X.doors (n/2) u dd hu' ed;refine nj (bI (j:=n) (v:= .ref t) (aW (aj rfl) X.ins cl T.gM rfl) (aj rfl) (aU X.fL) (by rw[List.getElem?_map,ht];rfl)) ?_;refine nj (bI (j:=n/2) (v:= .ref u) (aW (aj rfl) X.ins cl T.jt rfl) (Y9 (aj rfl) aV) (aU X.gA) (by rw[List.getElem?_map,hu'];rfl)) ?_;have eb:([V.int dd.a,V.int dd.b]:List V)[1-n%2]?=some (.int (h.behind n:Nat)):=by
   unfold Kh.House.behind;rw[ed];show _=some (V.int ((if n%2=0 then dd.b else dd.a:Nat):Int));rcases Nat.mod_two_eq_zero_or_one n with q|q
   ·rw[q];rfl
   ·rw[q];rfl
  refine nj (jU (j:=1-n%2) (aj rfl) (ahL (x:=1) aV (acT (aj rfl) aV) (by omega)) he eb) ?_;refine cD (Ev.cG (dh (x:=(J4 x).1) (y:=1) (jU (j:=0) (aj rfl) aV hs rfl) aV)) (fun e3=>?_) (fun e3=>?_)
  ·cases x with
   |free=>cases e3
   |shut=>cases e3
   |locked c=>
    have hc:=aeu I hn hx;have hy:cb[c]?=some cb[c]:=List.getElem?_eq_getElem hc;refine bQ (vN (cH (aj rfl) (cH (aj rfl) (cH aV (cH (bI (j:=c) (v:= .int (Kd.gF (h.opens n):Nat)) (aj rfl) (jU (j:=1) (aj rfl) aV hs rfl) (aU hlt) ?_) fun o dx no nd ne=>⟨o,dx,_,_,_,_,rfl,aq,rfl,?_⟩)))))
    ·unfold xP
     rw[List.getElem?_map,List.getElem?_map,hy,agc I hx hy];rfl
    ·have s3:=o7 (C:=A.iB) (fs:=zu (.int n) (.int (h.behind n)) (.bl false) (.int (Kd.gF (h.opens n):Nat))) no nd
     refine k _ o s3 no ⟨dx,?_⟩;rw[aq];unfold Kd.Jc;rw[hx]
  ·have e4:h.opens n=[]:=by
    unfold Kh.House.opens;rw[hx];cases x with
    |free=>rfl
    |shut=>rfl
    |locked c=>cases e3
   refine bQ (vN (cH (aj rfl) (cH (aj rfl) (cH (dh (x:=(J4 x).1) (y:=0) (jU (j:=0) (aj rfl) aV hs rfl) aV) (cH aV fun o dx no nd ne=>⟨o,dx,_,_,_,_,rfl,aq,rfl,?_⟩)))));have s3:=o7 (C:=A.iB) (fs:=zu (.int n) (.int (h.behind n)) (.bl (decide ((J4 x).1=0))) (.int 0)) no nd;refine k _ o s3 no ⟨dx,?_⟩;rw[aq];unfold Kd.Jc;rw[hx,e4];cases x with
   |free=>rfl
   |shut=>rfl
   |locked c=>cases e3
def aev (A:Ad):Sp:=fun vs H Q _=>∃(m:Nat) (x:Addr) (p:Kd.Pg),vs=[.int m, .ref x]∧Vn A H x p∧Q (.bl (Kd.xX m p)) H
theorem J8 (T:Txt K mg A):bK P w K mg base cV 1 A.HW A.yK ["bunch","passage"] (aev A):=by
 refine T.m6.fn.ok aeg (fun vs H Q E h=>?_) (fun cdv Ar outer s H vs Q E hr h=>?_)
 ·obtain⟨m,x,p,rfl,_⟩:=h
  rfl
 ·obtain⟨m,x,p,rfl,⟨dx,hx⟩,k⟩:=h
  have c:=T.iG.cl;refine⟨_,(aB (aL (adu (aN (pv 1) rfl) (uV (eY Ft (dw R4 (aN (pv 1) rfl) (pv 0)) aO (bD _)))))),?_⟩;exact jx (Ev.or (aW (aj rfl) hx c T.yR rfl) fun _=>HY (y:=0) (acU (aW (aj rfl) hx c T.yS rfl) (aj rfl)) aV) k
end
end Kq
end
section
namespace Kq
open PySem PySem.Spec PyProof.Rows L2 Hk Hs
theorem Am.keep {A:Ad}{H H':Hp}{l q:Addr}{ps:List Kd.Pg}{ys:List V}(h:Am A H l ps) (hq:H q=some (.lst ys)) (kp:Keep H q H') (n:l≠q):Am A H' l ps:=by
 obtain⟨xs,h1,h2,h3⟩:=h;refine⟨xs,kp _ _ h1 n,h2,fun i x p e1 e2=>?_⟩;obtain⟨dx,h4⟩:=h3 i x p e1 e2;exact⟨dx,fB kp hq (fun _ _ _ e=>nomatch e) h4⟩
section
variable {ta:TE}{g:TG}{tb:TS}{D:Ends}{σ:L2.St}{H:Hp}
theorem acX {n:Nat}(h:Ev ta σ H (.int (n:Int))) (hn:n≤30000) (Pv:Nat→L2.St→Hp→Prop) (h0:Pv 0 σ H) (hs:∀i σ H,i<n→Pv i σ H→g (.int (i:Int)) σ H fun σ2 H2=>tb {D with nx:=Pv (i+1),ct:=Pv (i+1),bk:=D.nx} σ2 H2) (hd:∀σ H,Pv n σ H→D.nx σ H):aeQ (Zk (gB ta pR)) g tb D σ H:=by
 refine h _ ⟨_,rfl,by omega,by omega,?_⟩;rw[Int.toNat_natCast];exact ady Pv h0 (fun i σ H hi p=>by rw[Int.zero_add];exact hs i σ H hi p) hd
theorem G9 {K:PySem.W.Frag}{a:Addr}{xs:List V}(h:Ev ta σ H (.ref a)) (ha:dR K H a xs) (Pv:Nat→L2.St→Hp→Prop) (h0:Pv 0 σ H) (hl:∀i σ H,i≤xs.length→Pv i σ H→dR K H a xs)
  (hs:∀i x σ H,xs[i]?=some x→Pv i σ H→g x σ H fun σ2 H2=>tb {D with nx:=Pv (i+1),ct:=Pv (i+1),bk:=D.nx} σ2 H2) (hd:∀σ H,Pv xs.length σ H→D.nx σ H):aeQ (Sy K ta) g tb D σ H:=h _ ⟨a,rfl,⟨_,ha⟩,NK Pv h0 hl hs hd⟩
end
theorem Ei (a b:List Addr):rV (a++b)=rV a++rV b:=List.map_append ..
theorem agd {l:List Addr}(h:l.Nodup){i j:Nat}{x y:Addr}(hi:l[i]?=some x) (hj:l[j]?=some y) (n:i≠j):x≠y:=by
 intro e;subst e;obtain⟨h1,e1⟩:=List.getElem?_eq_some_iff.mp hi;obtain⟨h2,e2⟩:=List.getElem?_eq_some_iff.mp hj;rcases Nat.lt_or_gt_of_ne n with g|g
 ·exact List.pairwise_iff_getElem.mp h i j h1 h2 g (e1.trans e2.symm)
 ·exact List.pairwise_iff_getElem.mp h j i h2 h1 g (e2.trans e1.symm)
theorem Ie (h:Kh.House) (n r:Nat) (hr:r<h.rooms):(Kd.rows h n)[r]?=some (((List.range n).filter fun s=>h.before s==r).map (Kd.Jc h)):=by
 unfold Kd.rows;rw[List.getElem?_map,List.getElem?_range hr];rfl
theorem Pu (h:Kh.House) (n:Nat):(Kd.rows h n).length=h.rooms:=by
 unfold Kd.rows;simp
section
variable {P:Program}{w:World}{K:PySem.W.Frag}{mg:Str→Option Value}{base:Heap}{A:Ad}
def Hf (A:Ad):Sp:=fun vs H Q _=>∃(a:Addr) (z:lM) (h:Kh.House) (cb:List (Nat×List Nat)) (hg:List (Nat×Nat)),vs=[.ref a]∧bh A H a z h cb hg∧Kd.bV h cb hg∧
 ∀H' b,Same H H'→H b=none→Jo A H' b (Kd.rows h (2*h.doors.length))→Q (.ref b) H'
theorem cP (T:Txt K mg A):bK P w K mg base cV 4 A.jZ A.gG ["house"] (Hf A):=by
 refine T.aX.fn.ok dM (fun vs H Q E h=>?_) (fun cdv Ar outer s H vs Q E hr h=>?_)
 ·obtain⟨a,z,h,cb,hg,rfl,_⟩:=h
  rfl
 ·obtain⟨a,z,h,cb,hg,rfl,X,I,k⟩:=h
  have cl:=T.d9.cl;refine⟨_,(au (Hx (i:=1) rfl dM.nd rfl rfl rfl (iI (aN (pv 0) rfl)) (gP (N:=["house","turners","cylinder","by_room","room","number","ends"]) (sc:=aF iJ) (own:=[("cylinder",2)]) rfl (by decide+kernel)) (fun _ _ _ _ _=>(cO (i:=2) dM.nd rfl (by first|exact Or.inl rfl|exact Or.inr rfl))) (fun _ _ _ _ _=>nZ) (fun _ _ _ _ _=>(aH (acW T) (hr.mono (by decide)) rfl T.uN.mg T.uN.fn.kp (aej T) .nil aP (ak (aH (yV T) (hr.mono (by decide)) rfl T.eN.mg T.eN.fn.kp (zG T) .nil aP (ak (pv 0) (ak (pv 2) ao))) ao))))
   (au (Hx (i:=3) rfl dM.nd rfl rfl rfl (lQ rfl T.ud (ak (aN (pv 0) rfl) ao)) (gP (N:=["house","turners","cylinder","by_room","room","number","ends"]) (sc:=aF iJ) (own:=[("room",4)]) rfl (by decide+kernel)) (fun _ _ _ _ _=>(cO (i:=4) dM.nd rfl (by first|exact Or.inl rfl|exact Or.inr rfl))) (fun _ _ _ _ _=>nZ) (fun _ _ _ _ _=>(bL ao)))
   (au (rU PassesOwn.never rfl (lQ rfl T.ud (ak (bH cA (by rfl) T.fK dG (ak (aN (pv 0) rfl) ao)) ao)) (cO (i:=5) dM.nd rfl (by first|exact Or.inl rfl|exact Or.inr rfl))
    (au (bJ (i:=6) dM.nd rfl (by first|exact Or.inl rfl|exact Or.inr rfl) (bG bw (aN (pv 0) rfl) (dw abx (pv 5) aO) (fun _ _=>rfl)))
    (aB (iH (rA PySem.F.plainAttrs_list PySem.F.slot_list_append PySem.F.type_list_append fW (bG bw (pv 3) (bG bw (pv 6) (dw aeS (pv 5) aO) (fun _ _=>rfl)) (fun _ _=>rfl)) (ak (aH (Vp T) (hr.mono (by decide)) rfl T.mZ.mg T.mZ.fn.kp (W8 T) .nil aP (ak (pv 0) (ak (pv 1) (ak (pv 5) ao)))) ao))))))
   (aB (aL (pv 3)))))),?_⟩
  have nk:=I.nk;have nc:=I.nc
  -- turners
  refine dF (Bh (xs:=rV z.cs) (out:=nV (xP h cb)) (aW (aj rfl) X.ins cl T.dO rfl) (aU X.jw) (by rw[List.length_map,X.nu];omega) (by rw[bR,List.length_map,X.nu];unfold xP;rw[List.length_map]) (fun _=>rfl) (fun j x y H1 hx hy s1=>?_) _ fun H1 lt s1 nlt hlt=>?_)
  ·obtain⟨c,hc,rfl⟩:=vm hx
   obtain⟨q,hq⟩:=j5 X.nu hc;unfold xP at hy;rw[List.getElem?_map,List.getElem?_map,hq]at hy;have hy:V.int _=y:=Option.some.inj hy;rw[←hy];intro Q kq;refine cu (bx (aA (aj (v:= .ref a) rfl) (aA (aj (v:= .ref c) rfl) bA)) ⟨a,c,z,h,cb,hg,q,rfl,X.same s1,I,(X.cyls j c q hc hq).same s1,List.mem_of_getElem? hq,fun H2 l s2 nl hl=>⟨l,_,rfl,hl,?_,?_,fun H3 s3=>kq H3 (s2.trans s3)⟩⟩)
   ·have:=Kd.bB h.keys.length (lN h (Kd.fX q))
    omega
   ·intro n mn
    have:=List.mem_range.mp (List.mem_filter.mp mn).1;omega
  -- by_room
  have X1:=X.same s1;have rm:=I.rooms;refine dF (aW (aj rfl) X1.ins cl T.oX rfl _ ⟨_,rfl,by omega,by omega,fun D hD=>Bg (n:=h.rooms) (fun i H'=>∃ls,Acc H1 D (rV ls) H'∧ls.length=i∧ls.Nodup∧∀l∈ls,H1 l=none∧l≠D∧H' l=some (.lst [])) ⟨[],Acc.start hD,rfl,List.nodup_nil,fun l m=>by cases m⟩ ?_ ?_⟩)
  ·rintro i H' hi ⟨ls,acc,hl,nd,own⟩
   refine⟨rfl,Nat.zero_le _,fun l hl'=>⟨rV ls,aZ hl' _ _ acc.lst,cB (by rw[List.length_map];omega),ls++[l],?_,by rw[List.length_append,hl];rfl,?_,?_⟩⟩
   ·rw[Ei]
    exact acc.push (aZ hl') hD _
   ·rw[List.nodup_append]
    refine⟨nd,by simp,fun x mx y my e=>?_⟩;rw[List.mem_singleton]at my;subst my e;have:=(own _ mx).2.2;rw[this]at hl';cases hl'
   ·intro x mx
    have lD:l≠D:=fun e=>by rw[e,acc.lst]at hl';cases hl'
    rcases List.mem_append.mp mx with mx|mx
    ·obtain⟨o1,o2,o3⟩:=own x mx
     refine⟨o1,o2,?_⟩;rw[aJ o2];exact aZ hl' _ _ o3
    ·rw[List.mem_singleton]at mx
     subst mx;exact⟨acc.same.free hl',lD,by rw[aJ lD,aq]⟩
  ·rintro H2 ⟨ls,acc,hl,nd,own⟩
   have s2:Same H H2:=s1.trans acc.same;have hlt2:=acc.same _ _ hlt;have X2:=X.same s2;have nD:H D=none:=s1.free hD
   -- for number in range(len(house.sides))
   refine qG (acX (n:=2*h.doors.length) (fun Q q=>dH (aW (aj rfl) X2.ins cl T.gM rfl) (aU X2.fL) _ (by rw[List.length_map,X.jT];exact q)) (by have:=I.nd;omega) (fun i σ H'=>∃v2 v4 v5 v6,σ=[some (.ref a),some (.ref lt),v2,some (.ref D),v4,v5,v6]∧Same H H'∧H' lt=some (.lst (nV (xP h cb)))∧H' D=some (.lst (rV ls))∧∀(r:Nat) l ps,ls[r]?=some l→(Kd.rows h i)[r]?=some ps→Am A H' l ps) ?_ ?_ ?_)
   ·refine⟨_,_,_,_,rfl,s2,hlt2,acc.lst,fun r l ps e1 e2=>?_⟩
    have hr':r<h.rooms:=by
     have:=(List.getElem?_eq_some_iff.mp e2).1
     rwa [Pu]at this
    rw[Ie h 0 r hr']at e2;cases e2;exact⟨[],(own l (List.mem_of_getElem? e1)).2.2,rfl,fun i x p e=>by simp at e⟩
   ·rintro i σ H' hi ⟨v2,v4,v5,v6,rfl,s3,ahM,hD3,rw3⟩
    have X3:=X.same s3;obtain⟨dd,ed,mdd⟩:=Kd.xV hi;obtain⟨u,hu'⟩:∃u,z.ds[i/2]?=some u:=⟨z.ds[i/2]'(by rw[X.mD];omega),List.getElem?_eq_getElem _⟩
    have he:=X3.doors (i/2) u dd hu' ed;refine nj (bI (j:=i/2) (v:= .ref u) (aW (aj rfl) X3.ins cl T.jt rfl) (Y9 (aj rfl) aV) (aU X3.gA) (by rw[List.getElem?_map,hu'];rfl)) ?_;have eb:([V.int dd.a,V.int dd.b]:List V)[i%2]?=some (.int (h.before i:Nat)):=by
     unfold Kh.House.before;rw[ed];show _=some (V.int ((if i%2=0 then dd.a else dd.b:Nat):Int));rcases Nat.mod_two_eq_zero_or_one i with q|q
     ·rw[q];rfl
     ·rw[q];rfl
    have hb:=Kd.TQ I.doors hi;obtain⟨l,hlb⟩:∃l,ls[h.before i]?=some l:=⟨ls[h.before i]'(by rw[hl];exact hb),List.getElem?_eq_getElem _⟩
    have ml:=List.mem_of_getElem? hlb;obtain⟨xs,r1,r2,r3⟩:=rw3 _ l _ hlb (Ie h i _ hb);refine bI (j:=h.before i) (v:= .ref l) (aj rfl) (jU (j:=i%2) (aj rfl) (acT (aj rfl) aV) he eb) (aU hD3) (by rw[List.getElem?_map,hlb];rfl) _ ⟨.inl ⟨rfl,_,dR.of r1⟩,?_⟩;refine cu (bx (aA (aj rfl) (aA (aj rfl) (aA (aj rfl) bA))) ⟨a,lt,z,h,cb,hg,i,rfl,X3,I,ahM,hi,fun H4 x s4 nx hx=>⟨l,rV xs, .ref x,rfl,rfl,s4 _ _ r1,?_,?_⟩⟩)
    ·refine cB ?_
     rw[List.length_map,r2,List.length_map];have:=Kd.bB i fun s=>h.before s==h.before i
     have:=I.nd;omega
    ·have kp:Keep H4 l (upd H4 l (.lst (rV xs++[.ref x]))):=cC
     have lD:l≠D:=(own l ml).2.1;have nl:H l=none:=s1.free (own l ml).1;refine⟨_,_,_,_,rfl,jd (s3.trans s4) nl,kp _ _ (s4 _ _ ahM) (fun e=>?_),kp _ _ (s4 _ _ hD3) lD.symm,fun r l' ps e1 e2=>?_⟩
     ·have:=(own l ml).1
      rw[←e,hlt]at this;cases this
     ·have hr':r<h.rooms:=by
       have:=(List.getElem?_eq_some_iff.mp e2).1
       rwa [Pu]at this
      rw[Ie h (i+1) r hr',Eh,List.map_append]at e2;by_cases c:h.before i=r
      ·subst c
       rw[hlb]at e1;cases e1;rw[if_pos (by simp)]at e2;cases e2;refine⟨xs++[x],by rw[aq,Ei];rfl,by rw[List.length_append,List.length_append,r2];rfl,fun j y p g1 g2=>?_⟩;rcases cX g1 with⟨q1,q2⟩|⟨q1,q2⟩
       ·rcases cX g2 with⟨p1,p2⟩|⟨p1,p2⟩
        ·obtain⟨dx,h4⟩:=r3 j y p q2 p2
         exact⟨dx,fB kp (s4 _ _ r1) (fun _ _ _ e=>nomatch e) (s4 _ _ h4)⟩
        ·rw[r2]at q1
         omega
       ·rcases cX g2 with⟨p1,p2⟩|⟨p1,p2⟩
        ·rw[r2]at q1
         omega
        ·subst q2
         have p2:Kd.Jc h i=p:=p2;subst p2;obtain⟨dx,h4⟩:=hx;exact⟨dx,fB kp (s4 _ _ r1) (fun _ _ _ e=>nomatch e) h4⟩
      ·rw[if_neg (by simpa using c),List.map_nil,List.append_nil]at e2
       cases e2;have:=rw3 r l' _ e1 (Ie h i r hr');exact(this.same s4).keep (s4 _ _ r1) kp (agd nd e1 hlb (Ne.symm c))
   ·rintro σ H' ⟨v2,v4,v5,v6,rfl,s3,ahM,hD3,rw3⟩
    exact jx (v:= .ref D) (aj rfl) (k H' D s3 nD ⟨ls,hD3,by rw[Pu,hl],rw3⟩)
end
end Kq
end
section
namespace Kq
open PySem PySem.Spec PyProof.Rows L2 Hk Hs
def pick {α:Type}:List α→List Bool→List α
 |x::xs,b::bs=>if b then x::pick xs bs else pick xs bs
 |_,_=>[]
theorem Vq {α:Type}:∀{xs:List α}{bs:List Bool}{x:α}{b:Bool},xs.length=bs.length→pick (xs++[x]) (bs++[b])=pick xs bs++(if b then[x]else[])
 |[],[],x,b,_=>by cases b<;>rfl
 |[],_::_,_,_,e=>by simp at e
 |_::_,[],_,_,e=>by simp at e
 |y::xs,c::bs,x,b,e=>by
  have ih:=Vq (xs:=xs) (bs:=bs) (x:=x) (b:=b) (by simpa using e);show(if c then y::pick (xs++[x]) (bs++[b])else pick (xs++[x]) (bs++[b]))=(if c then y::pick xs bs else pick xs bs)++_;rw[ih];cases c<;>rfl
theorem Za {α:Type}:∀(xs:List α) (bs:List Bool),(pick xs bs).length≤xs.length
 |[],bs=>Nat.zero_le _
 |x::xs,[]=>Nat.zero_le _
 |x::xs,b::bs=>by
  have:=Za xs bs;cases b with
  |false=>show(pick xs bs).length≤xs.length+1;omega
  |true=>show(pick xs bs).length+1≤xs.length+1;omega
theorem Ej {α:Type}(f:α→Bool):∀l:List α,pick l (l.map f)=l.filter f
 |[]=>rfl
 |x::l=>by
  rw[List.map_cons,List.filter_cons];show(if f x then x::pick l (l.map f)else pick l (l.map f))=_;rw[Ej f l]
theorem Ig {α β:Type}(g:α→β):∀(l:List α) (bs:List Bool),pick (l.map g) bs=(pick l bs).map g
 |[],bs=>rfl
 |x::l,[]=>rfl
 |x::l,b::bs=>by
  rw[List.map_cons];show(if b then g x::pick (l.map g) bs else pick (l.map g) bs)=(if b then x::pick l bs else pick l bs).map g;rw[Ig g l bs];cases b<;>rfl
theorem Vr {α β:Type}{R:α→β→Prop}(f:β→Bool):∀{xs:List α}{ps:List β},xs.length=ps.length→(∀(i:Nat) x p,xs[i]?=some x→ps[i]?=some p→R x p)→
  (pick xs (ps.map f)).length=(ps.filter f).length∧∀(i:Nat) x p,(pick xs (ps.map f))[i]?=some x→(ps.filter f)[i]?=some p→R x p
 |[],[],_,_=>⟨rfl,fun i x p e=>by simp[pick]at e⟩
 |[],_::_,e,_=>by simp at e
 |_::_,[],e,_=>by simp at e
 |y::xs,q::ps,e,h=>by
  obtain⟨i1,i2⟩:=Vr f (xs:=xs) (ps:=ps) (by simpa using e) fun i x p e1 e2=>h (i+1) x p e1 e2
  rw[List.map_cons,List.filter_cons];show(if f q then y::pick xs (ps.map f)else pick xs (ps.map f)).length=_∧∀(i:Nat) x p,(if f q then y::pick xs (ps.map f)else pick xs (ps.map f))[i]?=some x→_
  cases c:f q with
  |false=>exact⟨i1,i2⟩
  |true=>
   refine⟨by simp[i1],fun i x p e1 e2=>?_⟩;cases i with
   |zero=>
    simp at e1 e2;subst e1 e2;exact h 0 _ _ rfl rfl
   |succ i=>
    simp at e1 e2;exact i2 i x p e1 e2
section
variable {K:PySem.W.Frag}{ti ta:TE}{tt:TT}{vs:List Nat}{i:Nat}{σ:L2.St}{H:Hp}{a:Addr}{xs:List V}{bs:List Bool}
theorem acY (hi:Ev ti σ H (.ref a)) (ha:dR K H a xs) (hl:xs.length≤30000) (hb:bs.length=xs.length) (hw:∀v,wipe ((wipe σ vs).set i (some v)) vs=wipe σ vs) (hv:∀v,((wipe σ vs).set i (some v))[i]?=some (some v))
  (ht:∀(j:Nat) x b H',xs[j]?=some x→bs[j]?=some b→Same H H'→Tg tt ((wipe σ vs).set i (some x)) H' b):El (Ti (Sy K ti) (pU i) tt (Er i) vs) σ H (pick xs bs):=by
 intro Q k;refine hi _ ⟨a,rfl,⟨_,ha⟩,fun D hD=>?_⟩;refine ab7 (xs:=xs) (fun j H'=>Acc H D (pick (xs.take j) (bs.take j)) H') (Acc.start hD) (fun j H' _ acc=>acc.same.seq ha) (fun j x H' hx acc=>?_) (fun H' acc=>?_)
 ·have hj:j<bs.length:=by
   rw[hb];exact(List.getElem?_eq_some_iff.mp hx).1
  have hbj:bs[j]?=some bs[j]:=List.getElem?_eq_getElem hj;refine⟨hw _,ht j x _ H' hx hbj acc.same _ fun H2 s2=>?_⟩;have es:pick (xs.take (j+1)) (bs.take (j+1))=pick (xs.take j) (bs.take j)++(if bs[j]=true then[x]else[]):=by
   rw[take_snoc hx,take_snoc hbj,Vq (by rw[List.length_take,List.length_take,hb])]
  cases c:bs[j]with
  |false=>
   rw[c,if_neg (by simp),List.append_nil]at es;show Acc H D (pick (xs.take (j+1)) (bs.take (j+1))) H2;rw[es];exact acc.keep s2
  |true=>
   rw[c,if_pos rfl]at es;refine⟨x,hv x,_,s2 _ _ acc.lst,?_,?_⟩
   ·have h1:=Za (xs.take j) (bs.take j)
    have h2:=List.length_take_le j xs;exact cB (by omega)
   ·rw[es]
    exact acc.push s2 hD _
 ·rw[List.take_length,←hb,List.take_length]at acc
  exact k H' D acc.same hD acc.lst
theorem Zb (hi:El ti σ H xs) (hl:xs.length≤30000) (hb:bs.length=xs.length) (hw:∀v,wipe ((wipe σ vs).set i (some v)) vs=wipe σ vs) (hv:∀v,((wipe σ vs).set i (some v))[i]?=some (some v))
  (ht:∀(j:Nat) x b H',xs[j]?=some x→bs[j]?=some b→Same H H'→Tg tt ((wipe σ vs).set i (some x)) H' b):El (Ti (Sy K ti) (pU i) tt (Er i) vs) σ H (pick xs bs):=by
 intro Q k;refine hi _ fun H1 a s1 na ha=>?_
 refine acY (K:=K) (a:=a) (ti:=fun _ H Q=>Q (.ref a) H) (σ:=σ) (H:=H1) (fun Q q=>q) (dR.of ha) hl hb hw hv (fun j x b H' e1 e2 s=>ht j x b H' e1 e2 (s1.trans s)) Q fun H' D s nD hD=>k H' D (s1.trans s) (s1.free nD) hD
theorem aaO {n:Nat}{f:Nat→Bool}(hi:Ev ta σ H (.int (n:Int))) (hn:n≤30000) (hw:∀v,wipe ((wipe σ vs).set i (some v)) vs=wipe σ vs) (hv:∀v,((wipe σ vs).set i (some v))[i]?=some (some v))
  (ht:∀(j:Nat) H',j<n→Same H H'→Tg tt ((wipe σ vs).set i (some (.int (j:Int)))) H' (f j)):El (Ti (Zk (gB ta pR)) (pU i) tt (Er i) vs) σ H (nV ((List.range n).filter f)):=by
 intro Q k;refine hi _ ⟨_,rfl,by omega,by omega,fun D hD=>?_⟩;rw[Int.toNat_natCast];refine Bg (n:=n) (fun j H'=>Acc H D (nV ((List.range j).filter f)) H') (Acc.start hD) (fun j H' hj acc=>?_) (fun H' acc=>k H' D acc.same hD acc.lst);rw[Int.zero_add];refine⟨hw _,ht j H' hj acc.same _ fun H2 s2=>?_⟩;have es:=Eh f j;cases c:f j with
 |false=>
  rw[c,if_neg (by simp),List.append_nil]at es;show Acc H D (nV ((List.range (j+1)).filter f)) H2;rw[es];exact acc.keep s2
 |true=>
  rw[c,if_pos rfl]at es;refine⟨_,hv _,_,s2 _ _ acc.lst,?_,?_⟩
  ·rw[bR]
   have:=Kd.bB j f;exact cB (by omega)
  ·rw[es,vh]
   exact acc.push s2 hD _
end
section
variable {K:PySem.W.Frag}{ta:TE}{tr:TA}{D:Ends}{σ:L2.St}{H:Hp}{l:Addr}{xs:List V}
theorem Hg (ho:Ev ta σ H (.ref l)) (hl:H l=some (.lst xs)) (h:tr σ H fun vs H2=>KY (.ref l) vs H2 fun _ H3=>D.nx σ H3):Sw (tBM K "list" KY ta tr) D σ H:=ho _ ⟨.inl ⟨rfl,_,dR.of hl⟩,h⟩
theorem ahN (ho:Ev ta σ H (.ref l)) (hl:H l=some (.lst xs)) (h:tr σ H fun vs H2=>S9 (.ref l) vs H2 fun _ H3=>D.nx σ H3):Sw (tBM K "list" S9 ta tr) D σ H:=ho _ ⟨.inl ⟨rfl,_,dR.of hl⟩,h⟩
end
section
variable {ta td te:TE}{g:TG}{tt:TT}{vs:List Nat}{σ:L2.St}{H:Hp}{Q:VK}
theorem afc {n:Nat}(h:Ev ta σ H (.int (n:Int))) (hn:n≤30000) (k:∀D,H D=none→Lc (Itr 0 n) g tt te vs σ H (fun H'=>Q (.ref D) H') D):Ti (Zk (gB ta pR)) g tt te vs σ H Q:=by
 refine h _ ⟨_,rfl,by omega,by omega,fun D hD=>?_⟩;rw[Int.toNat_natCast];exact k D hD
theorem ahO {d:Addr}{o:Obj}{kvs:List (L2.Key×V)}(h:Ev td σ H (.ref d)) (hd:H d=some (.cM o (.dK kvs))) (k:∀D,H D=none→Lc (Itk d o kvs) g tt te vs σ H (fun H'=>Q (.ref D) H') D):Ti (ag3 td) g tt te vs σ H Q:=
 h _ ⟨d,o,rfl, .inl ⟨_,hd,k⟩⟩
end
end Kq
end
section
namespace Kq
open PySem PySem.Spec PyProof.Rows L2 Hk Hs
def fV:Kd.Ws→List Addr→List (L2.Key×V)
 |q::ws,a::as=>((Sum.inl (q.1:Int):L2.Key),V.ref a)::fV ws as
 |_,_=>[]
theorem Bx:∀{ws:Kd.Ws}{as:List Addr},as.length=ws.length→(fV ws as).length=ws.length
 |[],[],_=>rfl
 |[],_::_,e=>by simp at e
 |_::_,[],e=>by simp at e
 |q::ws,a::as,e=>by
  show(fV ws as).length+1=ws.length+1;rw[Bx (by simpa using e)]
theorem Ih:∀{ws:Kd.Ws}{as:List Addr},as.length=ws.length→(fV ws as).map (·.1)=(ws.map fun q=>((q.1:Nat):Int)).map Sum.inl
 |[],[],_=>rfl
 |[],_::_,e=>by simp at e
 |_::_,[],e=>by simp at e
 |q::ws,a::as,e=>by
  show(Sum.inl (q.1:Int):L2.Key)::(fV ws as).map (·.1)=_;rw[Ih (by simpa using e)];rfl
theorem Ii:∀{ws:Kd.Ws}{as:List Addr}{x:Nat},as.length=ws.length→x∉ws.map (·.1)→mF (fV ws as) (Sum.inl (x:Int))=none
 |[],[],_,_,_=>rfl
 |[],_::_,_,e,_=>by simp at e
 |_::_,[],_,e,_=>by simp at e
 |q::ws,a::as,x,e,h=>by
  rw[List.map_cons,List.mem_cons,not_or]at h;show mF (((Sum.inl (q.1:Int):L2.Key),V.ref a)::fV ws as) _=none;rw[uw (fun z=>h.1 (by have:=Sum.inl.inj z;omega))];exact Ii (by simpa using e) h.2
theorem BJ:∀{ws:Kd.Ws}{as:List Addr}{i:Nat}{q:Nat×List Nat}{a:Addr},(ws.map (·.1)).Nodup→ws[i]?=some q→as[i]?=some a→mF (fV ws as) (Sum.inl (q.1:Int))=some (.ref a)
 |[],_,_,_,_,_,e,_=>by simp at e
 |_::_,[],_,_,_,_,_,e=>by simp at e
 |p::ws,b::as,0,q,a,_,e1,e2=>by
  simp at e1 e2;subst e1 e2;exact xH rfl
 |p::ws,b::as,i+1,q,a,nd,e1,e2=>by
  rw[List.map_cons,List.nodup_cons]at nd;show mF (((Sum.inl (p.1:Int):L2.Key),V.ref b)::fV ws as) _=_;rw[uw (fun z=>nd.1 ?_)]
  ·exact BJ nd.2 e1 e2
  ·have:p.1=q.1:=by have:=Sum.inl.inj z;omega
   rw[this];exact List.mem_map.mpr ⟨q,List.mem_of_getElem? e1,rfl⟩
theorem aaP {ws:Kd.Ws}{as:List Addr}(e:as.length=ws.length) (nd:(ws.map (·.1)).Nodup) (x:Nat):(mF (fV ws as) (Sum.inl (x:Int))).isSome=decide (x∈ws.map (·.1)):=by
 by_cases c:x∈ws.map (·.1)
 ·obtain⟨q,mq,eq⟩:=List.mem_map.mp c
  obtain⟨i,hi⟩:=List.mem_iff_getElem?.mp mq;obtain⟨a,ha⟩:=j5 e.symm hi;rw[←eq,BJ nd hi ha,eq,decide_eq_true c];rfl
 ·rw[Ii e c,decide_eq_false c]
  rfl
theorem acZ:∀{ws:Kd.Ws}{as:List Addr}{q:Nat×List Nat}{a:Addr},as.length=ws.length→fV (ws++[q]) (as++[a])=fV ws as++[((Sum.inl (q.1:Int):L2.Key),V.ref a)]
 |[],[],_,_,_=>rfl
 |[],_::_,_,_,e=>by simp at e
 |_::_,[],_,_,e=>by simp at e
 |p::ws,b::as,q,a,e=>by
  show _::fV (ws++[q]) (as++[a])=_::(fV ws as++_);rw[acZ (by simpa using e)]
theorem ahP {ws:Kd.Ws}{as:List Addr}{x:Nat}{l:List Nat}{a:Addr}(e:as.length=ws.length) (h:x∉ws.map (·.1)):putK (fV ws as) (Sum.inl (x:Int)) (.ref a)=fV (ws++[(x,l)]) (as++[a]):=by
 unfold putK;rw[Az,Ii e h,acZ e];rfl
def akq (H0 H:Hp) (d:Addr) (ws:Kd.Ws):Prop:=∃as,as.length=ws.length∧H d=some (.dK (fV ws as))∧(∀(i:Nat) a q,as[i]?=some a→ws[i]?=some q→H a=some (.lst (nV q.2)))∧∀a∈as,H0 a=none
section
variable {c:TT}{tb:TS}{D:Ends}{σ:L2.St}{H:Hp}
theorem ac0 (Pv:Nat→L2.St→Hp→Prop){n0:Nat}(h0:Pv n0 σ H) (hs:∀n σ H,Pv n σ H→∃b,Tv c σ H b∧(b=false→D.nx σ H)∧(b=true→∃N:L2.St→Hp→Prop,(∀σ' H',N σ' H'→∃n',n'<n∧Pv n' σ' H')∧tb {D with nx:=N,ct:=N,bk:=D.nx} σ H)):KC c tb D σ H:=by
 refine⟨Pv,⟨n0,h0⟩,fun n σ H p=>?_⟩;obtain⟨b,hb,hf,ht⟩:=hs n σ H p;refine hb _ ?_;cases b with
 |false=>exact hf rfl
 |true=>exact ht rfl
end
theorem ahQ {ta td:TE}{σ:L2.St}{H:Hp}{d:Addr}{ws:Kd.Ws}{as:List Addr}{x:Nat}(ha:Ev ta σ H (.int (x:Int))) (hb:Ev td σ H (.ref d)) (hd:H d=some (.dK (fV ws as))) (e:as.length=ws.length) (nd:(ws.map (·.1)).Nodup):Ev (K7 ta td) σ H (.bl (!decide (x∈ws.map (·.1)))):=
 fun Q q=>ha _ (hb _ ⟨d,_,rfl,pZ.k (k:=Sum.inl (x:Int)) hd,by rw[aaP e nd];exact q⟩)
section
variable {td ty ta te tv:TE}{σ:L2.St}{H:Hp}{u:TS}{D:Ends}
theorem ahR {d:Addr}{kvs:List (L2.Key×V)}{k:L2.Key}{v:V}(h1:Ev td σ H (.ref d)) (h2:Ev ty σ H (kV k)) (hd:H d=some (.dK kvs)) (hv:mF kvs k=some v):Ev (agZ td ty) σ H v:=
 fun Q q=>h1 _ (h2 _ ⟨d,v,rfl,by rw[←hv];exact pZ.k hd,q⟩)
theorem ahS {l:Addr}{xs:List V}{y:V}(ha:Ev ta σ H (.ref l)) (hl:H l=some (.lst xs)) (he:Ev te σ H y) (hn:xs.length≤20000):El (rz agR ta (SJ (gB te pR))) σ H (xs++[y]):=fun Q k=>by
 refine ha _ (he _ ⟨by show 1≤sizeLine;decide,fun p1 n1=>⟨l,p1,_,_,rfl,rfl,aZ n1 _ _ hl,aq,Nat.le_of_lt (cB (by show xs.length+1≤30000;omega)),fun p2 n2=>?_⟩⟩);exact k _ p2 ((aZ n1).trans (aZ n2)) ((aZ n1).free n2) aq
theorem agf {d:Addr}{out:List V}{k:L2.Key}(hv:El tv σ H out) (hk:∀H' a,Same H H'→H a=none→H' a=some (.lst out)→Ev td σ H' (.ref d)∧Ev ty σ H' (kV k)∧∃kvs,H' d=some (.dK kvs)∧kvs.length≤30000∧u D σ (upd H' d (.dK (putK kvs k (.ref a))))):zf (adM td ty tv) u D σ H:=
 hv _ fun H' a s na ha=>by
  obtain⟨h1,h2,kvs,h3,h4,h5⟩:=hk H' a s na ha;exact h1 _ (h2 _ ⟨d,_,rfl,K6.k h3 (cB h4),h5⟩)
end
section
variable {P:Program}{w:World}{K:PySem.W.Frag}{mg:Str→Option Value}{base:Heap}{A:Ad}
def Px (A:Ad):Sp:=fun vs H Q _=>∃(b:Addr) (x:Nat) (pb:List (List Kd.Pg)),vs=[.ref b, .int x]∧Jo A H b pb∧pb.length≤1000∧(∀ps∈pb,ps.length≤1000)∧∀H' b',Same H H'→H b'=none→Jo A H' b' (Kd.mW pb x)→Q (.ref b') H'
theorem Py (T:Txt K mg A):bK P w K mg base cV 1 A.qQ A.kO ["by_room","side"] (Px A):=by
 refine T.jE.fn.ok j8 (fun vs H Q E h=>?_) (fun cdv Ar outer s H vs Q E hr h=>?_)
 ·obtain⟨b,x,pb,rfl,_⟩:=h
  rfl
 ·obtain⟨b,x,pb,rfl,hb,hn,hm,k⟩:=h
  have c:=T.iG.cl;refine⟨_,(au (bJ (i:=2) j8.nd rfl (by first|exact Or.inl rfl|exact Or.inr rfl) (bL ao))
   (au (rU PassesOwn.never rfl (iI (pv 0)) (cO (i:=3) j8.nd rfl (by first|exact Or.inl rfl|exact Or.inr rfl))
    (aB (iH (rA PySem.F.plainAttrs_list PySem.F.slot_list_append PySem.F.type_list_append fW (pv 2) (ak (pW rfl j8.nd (iI (pv 3)) (gP (N:=["by_room","side","left","passages","passage"]) (sc:=aF qJ) (own:=[("passage",4)]) rfl (by decide+kernel)) (fun _ _ _ _ _=>(cO (i:=4) j8.nd rfl (by first|exact Or.inl rfl|exact Or.inr rfl))) (fun _ _ _ _ _=>(rY (bM Ft (ab8 K rfl (pv 4) rfl) (pv 1) (bD _)))) (fun _ _ _ _ _=>(pv 4))) ao)))))
   (aB (aL (pv 2))))),?_⟩
  obtain⟨ls,b1,b2,b3⟩:=hb;refine dF ⟨Nat.zero_le _,fun L nL=>?_⟩;have s1:Same H (upd H L (.lst [])):=aZ nL;have hL1:upd H L (.lst []) L=some (.lst []):=aq;generalize upd H L (.lst [])=H1 at s1 hL1⊢;refine qG (G9 (a:=b) (xs:=rV ls) (aj rfl) (aU (s1 _ _ b1)) (fun i σ H'=>∃v3 v4 ms,σ=[some (.ref b),some (.int x),some (.ref L),v3,v4]∧Same H H'∧H' L=some (.lst (rV ms))∧ms.length=i∧(∀l∈ms,l≠L)∧∀(j:Nat) l ps,ms[j]?=some l→(Kd.mW pb x)[j]?=some ps→Am A H' l ps) ?_ ?_ ?_ ?_)
  ·exact⟨none,none,[],rfl,s1,hL1,rfl,(fun l m=>by cases m),fun j l ps e=>by simp at e⟩
  ·rintro i σ H' hi ⟨v3,v4,ms,rfl,s2,hL2,hms,own,rw2⟩
   exact aU (s2 _ _ b1)
  ·rintro i y σ H' hi ⟨v3,v4,ms,rfl,s2,hL2,hms,own,rw2⟩
   obtain⟨l,hl,rfl⟩:=vm hi;obtain⟨ps,hps⟩:=j5 b2 hl;obtain⟨xs,r1,r2,r3⟩:=(b3 i l ps hl hps).same s2;have aky:=hm ps (List.mem_of_getElem? hps);have hi1:i<pb.length:=(List.getElem?_eq_some_iff.mp hps).1;refine Hg (aj (v:= .ref L) rfl) hL2 ?_;refine cu (acY (K:=K) (xs:=rV xs) (bs:=ps.map fun p=> !decide (p.side=x)) (aj rfl) (aU r1) (by rw[List.length_map];omega) (by rw[List.length_map,List.length_map,r2]) (fun _=>rfl) (fun _=>rfl) (fun j v bb H2 hv hbb s3=>?_) _ fun H2 D s3 nD hD=>⟨L,rV ms, .ref D,rfl,rfl,s3 _ _ hL2,?_,?_⟩)
   ·obtain⟨xa,hxa,rfl⟩:=vm hv
    rw[List.getElem?_map]at hbb;obtain⟨p,hp,rfl⟩:=Option.map_eq_some_iff.mp hbb;obtain⟨dx,hx⟩:=(r3 j xa p hxa hp).same s3;exact Tv.tg (Ev.cG (HY (aW (aj rfl) hx c T.qZ rfl) (aj rfl)))
   ·exact cB (by rw[List.length_map];omega)
   ·have nDL:D≠L:=fun e=>by rw[e,hL2]at nD;cases nD
    have kp:Keep H2 L (upd H2 L (.lst (rV ms++[.ref D]))):=cC;refine⟨_,_,ms++[D],rfl,jd (s2.trans s3) nL,by rw[aq,Ei];rfl,by rw[List.length_append,hms];rfl,fun l' ml=>?_,fun j l' ps' e1 e2=>?_⟩
    ·rcases List.mem_append.mp ml with ml|ml
     ·exact own l' ml
     ·rw[List.mem_singleton]at ml
      rw[ml];exact nDL
    ·rcases cX e1 with⟨q1,q2⟩|⟨q1,q2⟩
     ·exact((rw2 j l' ps' q2 e2).same s3).keep (s3 _ _ hL2) kp (own l' (List.mem_of_getElem? q2))
     ·subst q2
      have:Am A H2 D (ps.filter fun p=> !decide (p.side=x)):=by
       obtain⟨p1,p2⟩:=Vr (R:=fun xa p=>Vn A H2 xa p) (fun p=> !decide (p.side=x)) r2 fun j xa p g1 g2=>(r3 j xa p g1 g2).same s3
       exact⟨pick xs (ps.map fun p=> !decide (p.side=x)),by rw[hD,Ig],p1,p2⟩
      have ep:ps'=ps.filter fun p=> !decide (p.side=x):=by
       rw[q1,hms]at e2;unfold Kd.mW at e2;rw[List.getElem?_map,hps]at e2;exact(Option.some.inj e2).symm
      rw[ep];exact this.keep (s3 _ _ hL2) kp nDL
  ·rintro σ H' ⟨v3,v4,ms,rfl,s2,hL2,hms,own,rw2⟩
   exact jx (v:= .ref L) (aj rfl) (k H' L s2 nL ⟨ms,hL2,by unfold Kd.mW;rw[hms,List.length_map,List.length_map,b2],rw2⟩)
def Rq (A:Ad):Sp:=fun vs H Q _=>∃(b:Addr) (m r:Nat) (h:Kh.House) (pb:List (List Kd.Pg)),vs=[.ref b, .int m, .int r]∧Jo A H b pb∧Kd.Rep h pb∧Kd.cQ h∧h.rooms≤24∧r<h.rooms∧
 ∀H' d ws,Same H H'→H d=none→akq H H' d ws→Kd.Found h (Kh.bunchOf h.keys.length m) r ws→Q (.ref d) H'
theorem jJ (T:Txt K mg A):bK P w K mg base cV 2 A.tR A.mL ["by_room","bunch","start"] (Rq A):=by
 refine T.bY.fn.ok iy (fun vs H Q E h=>?_) (fun cdv Ar outer s H vs Q E hr h=>?_)
 ·obtain⟨b,m,r,h,pb,rfl,_⟩:=h
  rfl
 ·obtain⟨b,m,r,h,pb,rfl,hb,R,hd,h24,hr0,k⟩:=h
  have c:=T.iG.cl;have hu:=FQ hr;refine⟨_,(au (bJ (i:=3) iy.nd rfl (by first|exact Or.inl rfl|exact Or.inr rfl) (ag0 (Yu (pv 2) (bL ao) abL) rfl rfl (by simp) (by decide)))
   (au (bJ (i:=4) iy.nd rfl (by first|exact Or.inl rfl|exact Or.inr rfl) (bL (ak (pv 2) ao)))
   (au (bJ (i:=5) iy.nd rfl (by first|exact Or.inl rfl|exact Or.inr rfl) aO)
   (au (Nz PassesOwn.never (bM Fv (pv 5) (bH cA (by rfl) T.fK dG (ak (pv 4) ao)) (bD _))
    (au (bJ (i:=6) iy.nd rfl (by first|exact Or.inl rfl|exact Or.inr rfl) (bG bw (pv 4) (pv 5) (fun _ _=>rfl)))
    (au (aii (i:=5) iy.nd rfl (by first|exact Or.inl rfl|exact Or.inr rfl) aO aij)
    (aB (rU PassesOwn.never rfl (iI (bG bw (pv 0) (pv 6) (fun _ _=>rfl))) (cO (i:=7) iy.nd rfl (by first|exact Or.inl rfl|exact Or.inr rfl))
     (aB (bU (PW.pt (Ht (Kz (Cq hu (aN (pv 7) rfl) (pv 3))) (Ay (dj (aH (J8 T) (hr.mono (by decide)) rfl T.m6.mg T.m6.fn.kp (O1 T) .nil aP (ak (pv 1) (ak (pv 7) ao)))))))
      (au (Tn hu (pv 3) (aN (pv 7) rfl) (dw KZ (abK hu (pv 3) (pv 6) (fun _ _=>rfl)) (bL (ak (aN (pv 7) rfl) ao))) rfl)
      (aB (iH (rA PySem.F.plainAttrs_list PySem.F.slot_list_append PySem.F.type_list_append fW (pv 4) (ak (aN (pv 7) rfl) ao)))))
      bC)))))))
   (aB (aL (pv 3))))))),?_⟩
  obtain⟨ls,b1,b2,b3⟩:=hb
  -- walks={start:[]}
  refine dF fun d nd0=>aj (v:= .int (r:Int)) rfl _ ⟨Nat.zero_le _,fun a0 na0=>?_⟩
  have da0:a0≠d:=fun e=>by rw[e,aq]at na0;cases na0
  refine⟨?_,[((Sum.inl (r:Int):L2.Key),V.ref a0)],rfl,by show 1≤15;decide,?_⟩
  ·rw[aJ da0.symm,aq]
  have em:Hy [] [((Sum.inl (r:Int):L2.Key),V.ref a0)]=fV [(r,[])] [a0]:=rfl;rw[em];have ajx:H a0=none:=by rw[aJ da0]at na0;exact na0
  have s1:Same H (upd (upd (upd H d (.dK [])) a0 (.lst [])) d (.dK (fV [(r,[])] [a0]))):=fun x o e=>by
   rw[aJ (aQ e nd0),aJ (aQ e ajx),aJ (aQ e nd0)];exact e
  have hd1:upd (upd (upd H d (.dK [])) a0 (.lst [])) d (.dK (fV [(r,[])] [a0])) d=some (.dK (fV [(r,[])] [a0])):=aq;have ha1:upd (upd (upd H d (.dK [])) a0 (.lst [])) d (.dK (fV [(r,[])] [a0])) a0=some (.lst []):=by rw[aJ da0,aq]
  generalize upd (upd (upd H d (.dK [])) a0 (.lst [])) d (.dK (fV [(r,[])] [a0]))=H1 at s1 hd1 ha1⊢
  -- waiting=[start];place=0
  refine dF (aj (v:= .int (r:Int)) rfl _ ⟨by show 1≤sizeLine;decide,fun wl nwl=>?_⟩);have s2:Same H1 (upd H1 wl (.lst [.int (r:Int)])):=aZ nwl;have hw2:upd H1 wl (.lst [.int (r:Int)]) wl=some (.lst [.int (r:Int)]):=aq;generalize upd H1 wl (.lst [.int (r:Int)])=H2 at s2 hw2⊢;have afd:H wl=none:=s1.free nwl;have akr:a0≠wl:=aQ ha1 nwl;refine nj aV ?_;refine Pk (ac0 (fun n σ H'=>∃(i:Nat) (ws:Kd.Ws) (as:List Addr) (v6 v7:Option V),n=25-i∧σ=[some (.ref b),some (.int (m:Int)),some (.int (r:Int)),some (.ref d),some (.ref wl),some (.int (i:Int)),v6,v7]∧Same H H'∧H' wl=some (.lst (nV (ws.map (·.1))))∧
   as.length=ws.length∧H' d=some (.dK (fV ws as))∧(∀(j:Nat) a q,as[j]?=some a→ws[j]?=some q→H' a=some (.lst (nV q.2)))∧(∀a∈as,a≠wl∧H a=none)∧Kd.um h (Kh.bunchOf h.keys.length m) r i [] ws) (n0:=25) ?_ ?_)
  ·refine⟨0,[(r,[])],[a0],none,none,rfl,rfl,s1.trans s2,hw2,rfl,s2 _ _ hd1,fun j a q e1 e2=>?_,fun a ma=>?_,Kd.ad0 hr0⟩
   ·cases j with
    |zero=>
     simp at e1 e2;subst e1 e2;exact s2 _ _ ha1
    |succ j=>simp at e1
   ·rw[List.mem_singleton]at ma
    rw[ma];exact⟨akr,ajx⟩
  ·rintro n σ H3 ⟨i,ws,as,v6,v7,rfl,rfl,s3,hw3,e3,hd3,ha3,ajy,B⟩
   refine⟨decide (i<ws.length),fun Q q=>Ev.cG (MK (aj rfl) (dH (aj rfl) (aU hw3))) _ (by rw[bR,List.length_map];exact q),fun e=>?_,fun e=>?_⟩
   ·have e:=of_decide_eq_false e
    exact jx (v:= .ref d) (aj rfl) (k H3 d ws s3 nd0 ⟨as,e3,hd3,ha3,fun a ma=>(ajy a ma).2⟩ (B.found (by omega)))
   ·have e:=of_decide_eq_true e
    have sz:=B.size;obtain⟨q,hq⟩:∃q,ws[i]?=some q:=⟨ws[i],List.getElem?_eq_getElem e⟩
    have mq:=List.mem_of_getElem? hq;have hqr:=B.lt q mq;obtain⟨ps,hps⟩:∃ps,pb[q.1]?=some ps:=⟨pb[q.1]'(by rw[R.len];exact hqr),List.getElem?_eq_getElem _⟩
    obtain⟨l,hl⟩:=j5 b2.symm hps;refine⟨fun σ' H'=>∃n',n'<25-i∧∃(i:Nat) (ws:Kd.Ws) (as:List Addr) (v6 v7:Option V),n'=25-i∧σ'=[some (.ref b),some (.int (m:Int)),some (.int (r:Int)),some (.ref d),some (.ref wl),some (.int (i:Int)),v6,v7]∧Same H H'∧H' wl=some (.lst (nV (ws.map (·.1))))∧
     as.length=ws.length∧H' d=some (.dK (fV ws as))∧(∀(j:Nat) a q,as[j]?=some a→ws[j]?=some q→H' a=some (.lst (nV q.2)))∧(∀a∈as,a≠wl∧H a=none)∧Kd.um h (Kh.bunchOf h.keys.length m) r i [] ws,fun σ' H' z=>z,?_⟩
    -- here=waiting[place];place += 1
    refine nj (bI (j:=i) (v:= .int (q.1:Nat)) (aj rfl) (aj rfl) (aU hw3) (by rw[List.getElem?_map,List.getElem?_map,hq];rfl)) ?_;refine qG ⟨_,rfl,⟨(i:Int),1,rfl,rfl,?_⟩⟩
    -- for passage in by_room[here]
    obtain⟨xs,r1,r2,r3⟩:=b3 q.1 l ps hl hps;refine G9 (K:=K) (a:=l) (xs:=rV xs) (bI (j:=q.1) (v:= .ref l) (aj rfl) (aj rfl) (aU (s3 _ _ b1)) (by rw[List.getElem?_map,hl];rfl)) (aU (s3 _ _ r1)) (fun j σ H'=>∃(ws:Kd.Ws) (as:List Addr) (v7:Option V),σ=[some (.ref b),some (.int (m:Int)),some (.int (r:Int)),some (.ref d),some (.ref wl),some (.int ((i:Int)+1)),some (.int (q.1:Nat)),v7]∧Same H H'∧H' wl=some (.lst (nV (ws.map (·.1))))∧
     as.length=ws.length∧H' d=some (.dK (fV ws as))∧(∀(j:Nat) a q,as[j]?=some a→ws[j]?=some q→H' a=some (.lst (nV q.2)))∧(∀a∈as,a≠wl∧H a=none)∧Kd.um h (Kh.bunchOf h.keys.length m) r i (ps.take j) ws∧ws[i]?=some q) ?_ ?_ ?_ ?_
    ·exact⟨ws,as,v7,rfl,s3,hw3,e3,hd3,ha3,ajy,B,hq⟩
    ·rintro j σ H' hj ⟨ws,as,v7,rfl,s4,Pz,e4,wC,ha4,Zc,B4,Vs⟩
     exact aU (s4 _ _ r1)
    ·rintro j y σ H' hj ⟨ws,as,v7,rfl,s4,Pz,e4,wC,ha4,Zc,B4,Vs⟩
     obtain⟨xa,hxa,rfl⟩:=vm hj;obtain⟨p,hp⟩:=j5 r2 hxa;obtain⟨dx,hx⟩:=(r3 j xa p hxa hp).same s4;obtain⟨st1,st2⟩:=R.step hd B4 Vs hps hp;refine ad5 (b:=(!decide (p.behind∈ws.map (·.1)))&&Kd.xX m p) (Tv.and (Ev.cJ (ahQ (aW (aj rfl) hx c T.fJ rfl) (aj rfl) wC e4 B4.nd)) fun _=>Ev.cJ (gn (aj rfl) (aj rfl) fun Q q=>⟨m,xa,p,rfl,⟨dx,hx⟩,q⟩)) (fun g=>?_) (fun g=>?_)
     ·rw[Bool.and_eq_true,Bool.not_eq_true',decide_eq_false_iff_not]at g
      have B5:=st1 g.1 g.2;have sz4:=B4.size;obtain⟨ai,hai⟩:=j5 e4.symm Vs;have aks:=ha4 i ai q hai Vs;have ql:q.2.length<24:=by
       have:=Kd.JF hd hr0 (B4.first q (List.mem_of_getElem? Vs));omega
      -- walks[passage.behind]=walks[here]+[passage.side]
      refine agf (d:=d) (out:=nV q.2++[.int (p.side:Nat)]) (k:=Sum.inl (p.behind:Int)) (ahS (ahR (k:=Sum.inl (q.1:Int)) (aj rfl) (aj rfl) wC (BJ B4.nd Vs hai)) aks (aW (aj rfl) hx c T.qZ rfl) (by rw[bR];omega)) fun H5 p2 s6 ajz hp2=>⟨aj rfl,aW (aj rfl) (s6 _ _ hx) c T.fJ rfl,_,s6 _ _ wC,by rw[Bx e4];omega,?_⟩
      rw[ahP (l:=q.2++[p.side]) e4 g.1];have kd:Keep H5 d (upd H5 d (.dK (fV (ws++[(p.behind,q.2++[p.side])]) (as++[p2])))):=cC;have kdl:∀{x:Addr}{ys:List V},H5 x=some (.lst ys)→upd H5 d (.dK (fV (ws++[(p.behind,q.2++[p.side])]) (as++[p2]))) x=some (.lst ys):=fun e=>kd _ _ e (eX e (s6 _ _ wC) fun z=>nomatch z)
      have hx6:=fB kd (s6 _ _ wC) (fun _ _ _ e=>nomatch e) (s6 _ _ hx);have hd6:upd H5 d (.dK (fV (ws++[(p.behind,q.2++[p.side])]) (as++[p2]))) d=some (.dK (fV (ws++[(p.behind,q.2++[p.side])]) (as++[p2]))):=aq;have hw6:=kdl (s6 _ _ Pz);have hp6:=kdl hp2;have s7:Same H (upd H5 d (.dK (fV (ws++[(p.behind,q.2++[p.side])]) (as++[p2])))):=jd (s4.trans s6) nd0;have ha6:∀(j:Nat) a q,as[j]?=some a→ws[j]?=some q→upd H5 d (.dK (fV (ws++[(p.behind,q.2++[p.side])]) (as++[p2]))) a=some (.lst (nV q.2)):=by
       intro j a q' e1 e2;exact(cC (p:=d)) _ _ (s6 _ _ (ha4 j a q' e1 e2)) (eX (s6 _ _ (ha4 j a q' e1 e2)) (s6 _ _ wC) fun z=>nomatch z)
      generalize hH6:upd H5 d (.dK (fV (ws++[(p.behind,q.2++[p.side])]) (as++[p2])))=H6 at hx6 hd6 hw6 hp6 s7;have ha7:∀(j:Nat) a q,as[j]?=some a→ws[j]?=some q→H6 a=some (.lst (nV q.2)):=fun j a q' e1 e2=>by
       rw[←hH6];exact(cC (p:=d)) _ _ (s6 _ _ (ha4 j a q' e1 e2)) (eX (s6 _ _ (ha4 j a q' e1 e2)) (s6 _ _ wC) fun z=>nomatch z)
      -- waiting.append(passage.behind)
      refine Hg (aj (v:= .ref wl) rfl) hw6 (aW (aj rfl) hx6 c T.fJ rfl _ ⟨wl,_,_,rfl,rfl,hw6,cB (by rw[bR,List.length_map];omega),?_⟩);have kw:Keep H6 wl (upd H6 wl (.lst (nV (ws.map (·.1))++[.int (p.behind:Nat)]))):=cC;have ajA:p2≠wl:=(aQ Pz ajz).symm;refine⟨ws++[(p.behind,q.2++[p.side])],as++[p2],_,rfl,jd s7 afd,?_,by rw[List.length_append,List.length_append,e4];rfl,kw _ _ hd6 (eX hd6 hw6 fun z=>nomatch z),fun j' a' q' e1 e2=>?_,fun a' ma=>?_,B5,?_⟩
      ·rw[aq,List.map_append,vh]
       rfl
      ·rcases cX e1 with⟨q1,q2⟩|⟨q1,q2⟩
       ·rcases cX e2 with⟨p3,p4⟩|⟨p3,p4⟩
        ·exact kw _ _ (ha7 j' a' q' q2 p4) (Zc a' (List.mem_of_getElem? q2)).1
        ·rw[e4]at q1
         omega
       ·rcases cX e2 with⟨p3,p4⟩|⟨p3,p4⟩
        ·rw[e4]at q1
         omega
        ·subst q2 p4
         rw[kw _ _ hp6 ajA];show _=some (HO.lst (nV (q.2++[p.side])));rw[vh];rfl
      ·rcases List.mem_append.mp ma with ma|ma
       ·exact Zc a' ma
       ·rw[List.mem_singleton]at ma
        rw[ma];exact⟨ajA,s4.free ajz⟩
      ·rw[List.getElem?_append_left (List.getElem?_eq_some_iff.mp Vs).1]
       exact Vs
     ·refine⟨ws,as,_,rfl,s4,Pz,e4,wC,ha4,Zc,st2 ?_,Vs⟩
      rw[Bool.and_eq_false_iff,Bool.not_eq_false',decide_eq_true_iff]at g;exact g
    ·rintro σ H' ⟨ws,as,v7,rfl,s4,Pz,e4,wC,ha4,Zc,B4,Vs⟩
     rw[List.length_map,r2,List.take_length]at B4;exact⟨25-(i+1),by omega,i+1,ws,as,_,_,rfl,rfl,s4,Pz,e4,wC,ha4,Zc,R.through B4 Vs hps⟩
end
end Kq
end
section
namespace Kq
open PySem PySem.Spec PyProof.Rows L2 Hk Hs
structure Gr (A:Ad) (H:Hp) (b:Addr) (h:Kh.House) (pb:List (List Kd.Pg)):Prop where
 pat:Jo A H b pb
 rep:Kd.Rep h pb
 doors:Kd.cQ h
 r24:h.rooms≤24
 Xo:h.doors.length≤24
theorem Gr.same {A:Ad}{H H':Hp}{b:Addr}{h:Kh.House}{pb:List (List Kd.Pg)}(g:Gr A H b h pb) (s:Same H H'):Gr A H' b h pb:=⟨g.pat.same s,g.rep,g.doors,g.r24,g.Xo⟩
abbrev bO (h:Kh.House) (m:Nat):Kh.Bunch:=Kh.bunchOf h.keys.length m
abbrev Gives (H:Hp) (Q:VK) (out:List V):Prop:=∀H' D,Same H H'→H D=none→H' D=some (.lst out)→Q (.ref D) H'
theorem Gives.less {H H1:Hp}{Q:VK}{out:List V}(g:Gives H Q out) (s:Same H H1):Gives H1 Q out:=fun H' D s' n e=>g H' D (s.trans s') (s.free n) e
theorem uh (l:List Nat):(Kd.iz l).map V.int=nV l:=Vk l
theorem Vt {h:Kh.House}{pb:List (List Kd.Pg)}(R:Kd.Rep h pb){x:Nat}{ps:List Kd.Pg}(e:pb[x]?=some ps):ps.length≤2*h.doors.length:=by
 have h1:=R.Wo x ps e;have:=Kd.N8 (l:=ps.map Kd.Pg.side) (Kd.iu h1) fun s ms=>by
  obtain⟨p,mp,ep⟩:=List.mem_map.mp ms;rw[←ep];exact(R.row x ps e p mp).1
 rwa [List.length_map]at this
section
variable {P:Program}{w:World}{K:PySem.W.Frag}{mg:Str→Option Value}{base:Heap}{A:Ad}
def Xp (A:Ad):Sp:=fun vs H Q _=>∃(b:Addr) (m r t:Nat) (h:Kh.House) (pb:List (List Kd.Pg)),vs=[.ref b, .int m, .int r, .int t]∧Gr A H b h pb∧r<h.rooms∧∀H',Same H H'→Q (.bl (h.leads (bO h m) r t)) H'
theorem iZ (T:Txt K mg A):bK P w K mg base cV 3 A.wU A.qw ["by_room","bunch","start","goal"] (Xp A):=by
 refine T.bW.fn.ok WR (fun vs H Q E h=>?_) (fun cdv Ar outer s H vs Q E hr h=>?_)
 ·obtain⟨b,m,r,t,h,pb,rfl,_⟩:=h
  rfl
 ·obtain⟨b,m,r,t,h,pb,rfl,G,hr0,k⟩:=h
  have hu:=FQ hr;refine⟨_,(aB (aL (aic (aeW hu (pv 3) (aH (jJ T) (hr.mono (by decide)) rfl T.bY.mg T.bY.fn.kp (lJ T) .nil aP (ak (pv 0) (ak (pv 1) (ak (pv 2) ao)))))))),?_⟩;refine bQ (aj (v:= .int (t:Int)) rfl _ (bx (aA (aj rfl) (aA (aj rfl) (aA (aj rfl) bA))) ⟨b,m,r,h,pb,rfl,G.pat,G.rep,G.doors,G.r24,hr0,fun H' d ws s nd ⟨as,e,hd,_⟩ F=>⟨d,_,rfl,pZ.k (k:=Sum.inl (t:Int)) hd,?_⟩⟩));rw[aaP e F.nd,F.leads G.doors hr0];exact k H' s
def PB (A:Ad):Sp:=fun vs H Q _=>∃(b:Addr) (m r:Nat) (h:Kh.House) (pb:List (List Kd.Pg)),vs=[.ref b, .int m, .int r]∧Gr A H b h pb∧r<h.rooms∧Gives H Q (nV (h.reached (bO h m) r))
theorem PJ (T:Txt K mg A):bK P w K mg base cV 3 A.qR A.kW ["by_room","bunch","start"] (PB A):=by
 refine T.jF.fn.ok Ou (fun vs H Q E h=>?_) (fun cdv Ar outer s H vs Q E hr h=>?_)
 ·obtain⟨b,m,r,h,pb,rfl,_⟩:=h
  rfl
 ·obtain⟨b,m,r,h,pb,rfl,G,hr0,k⟩:=h
  refine⟨_,(aB (aL (bH (ace rfl) (by rfl) T.Bs yH (ak (aH (jJ T) (hr.mono (by decide)) rfl T.bY.mg T.bY.fn.kp (lJ T) .nil aP (ak (pv 0) (ak (pv 1) (ak (pv 2) ao)))) ao)))),?_⟩;refine bQ (cu (bx (aA (aj rfl) (aA (aj rfl) (aA (aj rfl) bA))) ⟨b,m,r,h,pb,rfl,G.pat,G.rep,G.doors,G.r24,hr0,fun H' d ws s nd ⟨as,e,hd,_⟩ F=>⟨d,_,Kd.iz (ws.map (·.1)),rfl, .inl hd,?_,?_,fun ns' p hp hs np=>?_⟩⟩))
  ·rw[Ih e]
   simp only[Kd.iz,List.map_map];rfl
  ·show((ws.map (·.1)).map _).length<64
   rw[List.length_map,List.length_map];have:=F.size;have:=G.r24;omega
  ·have key:=Kd.uW G.doors (bO h m) hr0
   have:=Kd.CN hp hs F.nd key.1 fun x=>(F.mem x).trans (key.2 x).symm
   rw[this,uh];exact k _ p (s.trans (aZ np)) (s.free np) aq
def Fj (A:Ad):Sp:=fun vs H Q _=>∃(b:Addr) (m t:Nat) (h:Kh.House) (pb:List (List Kd.Pg)),vs=[.ref b, .int m, .int t]∧Gr A H b h pb∧Gives H Q (nV (h.shutOff (bO h m) t))
theorem Fl (T:Txt K mg A):bK P w K mg base cV 4 A.jN A.fU ["by_room","bunch","goal"] (Fj A):=by
 refine T.fu.fn.ok nq (fun vs H Q E h=>?_) (fun cdv Ar outer s H vs Q E hr h=>?_)
 ·obtain⟨b,m,t,h,pb,rfl,_⟩:=h
  rfl
 ·obtain⟨b,m,t,h,pb,rfl,G,k⟩:=h
  refine⟨_,(aB (aL (pW rfl nq.nd (lQ rfl T.ud (ak (bH cA (by rfl) T.fK dG (ak (pv 0) ao)) ao)) (gP (N:=["by_room","bunch","goal","room"]) (sc:=aF jK) (own:=[("room",3)]) rfl (by decide+kernel)) (fun _ _ _ _ _=>(cO (i:=3) nq.nd rfl (by first|exact Or.inl rfl|exact Or.inr rfl))) (fun _ _ _ _ _=>(rY (gq (dj (aH (iZ T) (hr.mono (by decide)) rfl T.bW.mg T.bW.fn.kp (jR T) .nil aP (ak (pv 0) (ak (pv 1) (ak (pv 3) (ak (pv 2) ao))))))))) (fun _ _ _ _ _=>(pv 3))))),?_⟩;obtain⟨ls,b1,b2,b3⟩:=id G.pat;have r24:=G.r24;refine bQ (aaO (n:=h.rooms) (f:=fun r=> !(h.leads (bO h m) r t)) (fun Q q=>dH (aj rfl) (aU b1) _ (by rw[List.length_map,b2,G.rep.len];exact q)) (by omega) (fun _=>rfl) (fun _=>rfl) (fun j H' hj s1=>Tg.not (Eg.cJ fun Q q=>?_)) _ fun H' D s1 nD hD=>k H' D s1 nD hD);exact bx (aA (aj rfl) (aA (aj rfl) (aA (aj rfl) (aA (aj rfl) bA)))) ⟨b,m,j,t,h,pb,rfl,G.same s1,hj,q⟩
def BK (A:Ad):Sp:=fun vs H Q _=>∃(b:Addr) (m r t:Nat) (h:Kh.House) (pb:List (List Kd.Pg)),vs=[.ref b, .int m, .int r, .int t]∧Gr A H b h pb∧r<h.rooms∧h.leads (bO h m) r t=true∧Gives H Q (nV (h.through (bO h m) r t))
theorem Gr.drop {A:Ad}{H:Hp}{b:Addr}{h:Kh.House}{pb:List (List Kd.Pg)}(G:Gr A H b h pb){x:Nat}(hx:x<2*h.doors.length){H':Hp}{b':Addr}(p:Jo A H' b' (Kd.mW pb x)):Gr A H' b' (h.without x) (Kd.mW pb x):=
 ⟨p,G.rep.drop hx,Kd.Bc G.doors x,G.r24,by rw[Kd.wK];exact G.Xo⟩
theorem BL (T:Txt K mg A):bK P w K mg base cV 4 A.iT A.fj ["by_room","bunch","start","goal"] (BK A):=by
 refine T.d7.fn.ok gQ (fun vs H Q E h=>?_) (fun cdv Ar outer s H vs Q E hr h=>?_)
 ·obtain⟨b,m,r,t,h,pb,rfl,_⟩:=h
  rfl
 ·obtain⟨b,m,r,t,h,pb,rfl,G,hr0,hl,k⟩:=h
  have hu:=FQ hr;refine⟨_,(au (bJ (i:=4) gQ.nd rfl (by first|exact Or.inl rfl|exact Or.inr rfl) (abK hu (aH (jJ T) (hr.mono (by decide)) rfl T.bY.mg T.bY.fn.kp (lJ T) .nil aP (ak (pv 0) (ak (pv 1) (ak (pv 2) ao)))) (pv 3) (fun _ _=>rfl)))
   (aB (aL (pW rfl gQ.nd (iI (bH Td (by rfl) T.Bs yH (ak (pv 4) ao))) (gP (N:=["by_room","bunch","start","goal","walk","side"]) (sc:=aF iR) (own:=[("side",5)]) rfl (by decide+kernel)) (fun _ _ _ _ _=>(cO (i:=5) gQ.nd rfl (by first|exact Or.inl rfl|exact Or.inr rfl))) (fun _ _ _ _ _=>(rY (gq (dj (aH (iZ T) (hr.mono (by decide)) rfl T.bW.mg T.bW.fn.kp (jR T) .nil aP (ak (aH (Py T) (hr.mono (by decide)) rfl T.jE.mg T.jE.fn.kp (Rb T) .nil aP (ak (pv 0) (ak (pv 5) ao))) (ak (pv 1) (ak (pv 2) (ak (pv 3) ao))))))))) (fun _ _ _ _ _=>(pv 5)))))),?_⟩
  have r24:=G.r24;have Xo:=G.Xo;refine dF (bx (aA (aj rfl) (aA (aj rfl) (aA (aj rfl) bA))) ⟨b,m,r,h,pb,rfl,G.pat,G.rep,G.doors,G.r24,hr0,fun H1 d ws s1 nd ⟨as,e,hd,ha,_⟩ F=>?_⟩);have mt:t∈ws.map (·.1):=(F.mem t).mpr ((Kd.iw G.doors hr0).mp hl);obtain⟨q,mq,eq⟩:=List.mem_map.mp mt;obtain⟨i,hi⟩:=List.mem_iff_getElem?.mp mq;obtain⟨a,hai⟩:=j5 e.symm hi;have hav:=ha i a q hai hi;have fq:=F.first q mq;rw[eq]at fq;have fl:=Kd.JF G.doors hr0 fq;refine aj (v:= .int (t:Int)) rfl _ ⟨d, .ref a,rfl,by rw[←BJ F.nd hi hai,eq];exact pZ.k (k:=Sum.inl (t:Int)) hd,?_⟩
  -- sorted(walk)
  have hn:=Kd.Z1 fq;have hs':Kd.jX ((List.range (2*h.doors.length)).filter fun x=>q.2.contains x):=Kd.dB _ (Kd.eE _);have hm':∀x,x∈(List.range (2*h.doors.length)).filter (fun x=>q.2.contains x)↔x∈q.2:=fun x=>by
   rw[List.mem_filter,List.mem_range,List.contains_iff_mem];exact⟨fun z=>z.2,fun z=>⟨Kd.sG fq.walk x z,z⟩⟩
  have hlen:=Kd.bB (2*h.doors.length) fun x=>q.2.contains x
  generalize(List.range (2*h.doors.length)).filter (fun x=>q.2.contains x)=l' at hs' hm' hlen;refine bQ (Zb (K:=K) (xs:=nV l') (bs:=l'.map fun s=> !((h.without s).leads (bO h m) r t)) ?_ (by rw[bR];omega) (by rw[List.length_map,bR]) (fun _=>rfl) (fun _=>rfl) ?_ _ fun H2 D s2 nD hD=>?_)
  rotate_left
  ·intro j x bb H2 hx hbb s2
   obtain⟨n,hn,rfl⟩:=ug hx;rw[List.getElem?_map,hn]at hbb;cases hbb;refine Tg.not (Eg.cJ fun Q kq=>?_);have hnl:n<2*h.doors.length:=Kd.sG fq.walk n ((hm' n).mp (List.mem_of_getElem? hn));have G2:=(G.same s1).same s2;refine cu (bx (aA (aj rfl) (aA (aj rfl) bA)) ⟨b,n,pb,rfl,G2.pat,by rw[G.rep.len];omega,fun ps mps=>?_,fun H3 b' s3 nb' hb'=>?_⟩)
   ·obtain⟨x,hx⟩:=List.mem_iff_getElem?.mp mps
    have:=Vt G.rep hx;omega
   ·exact aA (aj rfl) (aA (aj rfl) (aA (aj rfl) bA)) _ ⟨b',m,r,t,h.without n,_,rfl,G2.drop hnl hb',hr0,fun H4 s4=>kq H4 (s3.trans s4)⟩
  ·rw[Ig,Ej,Kd.ab3 G.doors hr0 fq hs' hm']at hD
   exact k H2 D (s1.trans s2) (s1.free nD) hD
  ·intro Q kq
   refine aj (v:= .ref a) rfl _ ⟨a,Kd.iz q.2,rfl,?_,?_,fun ns p g1 g2 np=>?_⟩
   ·rw[uh]
    exact aU hav
   ·show(q.2.map _).length<64
    rw[List.length_map];omega
   ·rw[Kd.CN g1 g2 hn hs' fun x=>(hm' x).symm,uh]
    exact kq _ p (aZ np) np aq
end
end Kq
end
section
namespace Kq
open PySem PySem.Spec PyProof.Rows L2 Hk Hs
section
variable {d:Addr}{o:Obj}{kvs:List (L2.Key×V)}{g:TG}{tb:TS}{D:Ends}{σ:L2.St}{H:Hp}
theorem agg (Pv:Nat→L2.St→Hp→Prop) (h0:Pv 0 σ H) (hl:∀i σ H,i≤kvs.length→Pv i σ H→H d=some (.cM o (.dK kvs)))
  (hs:∀i k v σ H,kvs[i]?=some (k,v)→Pv i σ H→g (kV k) σ H fun σ2 H2=>tb {D with nx:=Pv (i+1),ct:=Pv (i+1),bk:=D.nx} σ2 H2) (hd:∀σ H,Pv kvs.length σ H→D.nx σ H):
  ∃W:Nat→Nat→L2.St→Hp→Prop,(∃m,W 0 m σ H)∧∀i m σ H,W i m σ H→
   ((Itk d o kvs).stop i H∧D.nx σ H)∨((Itk d o kvs).go i H∧∃N:L2.St→Hp→Prop,(∀σ' H',N σ' H'→∃m',m'<m∧W (i+1) m' σ' H')∧∀x H',(Itk d o kvs).Zi i H x H'→g x σ H' fun σ2 H2=>tb {D with nx:=N,ct:=N,bk:=D.nx} σ2 H2):=by
 refine⟨fun i m σ H=>m=kvs.length-i∧i≤kvs.length∧Pv i σ H,⟨kvs.length,by simp,Nat.zero_le _,h0⟩,?_⟩;rintro i m σ H ⟨rfl,hi,p⟩;have q:=hl i σ H hi p;by_cases hlt:i<kvs.length
 ·refine .inr ⟨⟨q,hlt⟩,Pv (i+1),fun σ' H' p'=>⟨kvs.length-(i+1),by omega,rfl,hlt,p'⟩,fun x H' y=>?_⟩
  obtain⟨e,k,v,hk,ex⟩:=y;subst e ex;exact hs i k v σ _ hk p
 ·have e:i=kvs.length:=by omega
  subst e;exact .inl ⟨⟨q,Nat.le_refl _⟩,hd σ H p⟩
end
section
variable {d D:Addr}{o:Obj}{kvs:List (L2.Key×V)}{g:TG}{tt:TT}{te:TE}{vs:List Nat}{σ:L2.St}{H1:Hp}{Qd:Hp→Prop}
theorem ahT (Pv:Nat→Hp→Prop) (h0:Pv 0 (upd H1 D (.lst []))) (hl:∀i H,i≤kvs.length→Pv i H→H d=some (.cM o (.dK kvs)))
  (hs:∀i k v H,kvs[i]?=some (k,v)→Pv i H→g (kV k) (wipe σ vs) H (Turned tt te vs σ D (Pv (i+1)))) (hd:∀H,Pv kvs.length H→Qd H):Lc (Itk d o kvs) g tt te vs σ H1 Qd D:=by
 refine⟨fun i m H=>m=kvs.length-i∧i≤kvs.length∧Pv i H,⟨kvs.length,by simp,Nat.zero_le _,h0⟩,?_⟩;rintro i m H ⟨rfl,hi,p⟩;have q:=hl i H hi p;by_cases hlt:i<kvs.length
 ·refine .inr ⟨⟨q,hlt⟩,Pv (i+1),fun H' p'=>⟨kvs.length-(i+1),by omega,rfl,hlt,p'⟩,fun x H' y=>?_⟩
  obtain⟨e,k,v,hk,ex⟩:=y;subst e ex;exact hs i k v _ hk p
 ·have e:i=kvs.length:=by omega
  subst e;exact .inl ⟨⟨q,Nat.le_refl _⟩,hd H p⟩
end
theorem Vu (h:Kh.House) (m x:Nat) (ps:List Kd.Pg) (p:Kd.Pg):Kd.gO h m x (ps++[p])=Kd.gO h m x ps++(if (Kd.xX m p&& !(h.leads (bO h m) p.behind x))=true then[p.side]else[]):=by
 unfold Kd.gO;rw[List.filter_append,List.map_append,List.filter_cons,List.filter_nil]
 split<;>rfl
theorem Jp (h:Kh.House) (m x:Nat) (ps:List Kd.Pg):(Kd.gO h m x ps).length≤ps.length:=by
 unfold Kd.gO;rw[List.length_map];exact List.length_filter_le _ _
section
variable {P:Program}{w:World}{K:PySem.W.Frag}{mg:Str→Option Value}{base:Heap}{A:Ad}
def MN (A:Ad):Sp:=fun vs H Q _=>∃(b:Addr) (m x:Nat) (h:Kh.House) (pb:List (List Kd.Pg)) (ps:List Kd.Pg),vs=[.ref b, .int m, .int x]∧Gr A H b h pb∧pb[x]?=some ps∧Gives H Q (nV (Kd.gO h m x ps))
theorem MP (T:Txt K mg A):bK P w K mg base cV 4 A.pB A.jO ["by_room","bunch","room"] (MN A):=by
 refine T.je.fn.ok sS (fun vs H Q E h=>?_) (fun cdv Ar outer s H vs Q E hr h=>?_)
 ·obtain⟨b,m,x,h,pb,ps,rfl,_⟩:=h
  rfl
 ·obtain⟨b,m,x,h,pb,ps,rfl,G,hps,k⟩:=h
  have c:=T.iG.cl;refine⟨_,(au (bJ (i:=3) sS.nd rfl (by first|exact Or.inl rfl|exact Or.inr rfl) (bL ao))
   (au (rU PassesOwn.never rfl (iI (bG bw (pv 0) (pv 2) (fun _ _=>rfl))) (cO (i:=4) sS.nd rfl (by first|exact Or.inl rfl|exact Or.inr rfl))
    (aB (bU (PW.pt (Ht (dj (aH (J8 T) (hr.mono (by decide)) rfl T.m6.mg T.m6.fn.kp (O1 T) .nil aP (ak (pv 1) (ak (pv 4) ao)))) (Ay (gq (dj (aH (iZ T) (hr.mono (by decide)) rfl T.bW.mg T.bW.fn.kp (jR T) .nil aP (ak (pv 0) (ak (pv 1) (ak (aN (pv 4) rfl) (ak (pv 2) ao))))))))))
     (aB (iH (rA PySem.F.plainAttrs_list PySem.F.slot_list_append PySem.F.type_list_append fW (pv 3) (ak (aN (pv 4) rfl) ao))))
     bC)))
   (aB (aL (pv 3))))),?_⟩
  obtain⟨ls,b1,b2,b3⟩:=id G.pat;obtain⟨l,hl⟩:=j5 b2.symm hps;obtain⟨xs,r1,r2,r3⟩:=b3 x l ps hl hps;have Xo:=G.Xo;have pl:=Vt G.rep hps;refine dF ⟨Nat.zero_le _,fun L nL=>?_⟩;have s1:Same H (upd H L (.lst [])):=aZ nL;have hL1:upd H L (.lst []) L=some (.lst []):=aq;generalize upd H L (.lst [])=H1 at s1 hL1⊢;refine qG (G9 (K:=K) (a:=l) (xs:=rV xs) (bI (j:=x) (v:= .ref l) (aj rfl) (aj rfl) (aU (s1 _ _ b1)) (by rw[List.getElem?_map,hl];rfl)) (aU (s1 _ _ r1)) (fun j σ H'=>∃v4,σ=[some (.ref b),some (.int (m:Int)),some (.int (x:Int)),some (.ref L),v4]∧Same H H'∧H' L=some (.lst (nV (Kd.gO h m x (ps.take j))))) ?_ ?_ ?_ ?_)
  ·exact⟨none,rfl,s1,hL1⟩
  ·rintro j σ H' hj ⟨v4,rfl,s2,hL2⟩
   exact aU (s2 _ _ r1)
  ·rintro j y σ H' hj ⟨v4,rfl,s2,hL2⟩
   obtain⟨xa,hxa,rfl⟩:=vm hj;obtain⟨p,hp⟩:=j5 r2 hxa;obtain⟨dx,hx⟩:=(r3 j xa p hxa hp).same s2;obtain⟨g1,g2,g3,g4⟩:=G.rep.row x ps hps p (List.mem_of_getElem? hp);have hbl:p.behind<h.rooms:=by rw[←g3];exact Kd.rB G.doors g1
   have es:=Vu h m x (ps.take j) p;rw[←Kd.take_snoc hp]at es;refine ad6 (b:=Kd.xX m p&& !(h.leads (bO h m) p.behind x)) (Tg.and (Tv.tg (Ev.cJ (gn (aj rfl) (aj rfl) fun Q q=>⟨m,xa,p,rfl,⟨dx,hx⟩,q⟩))) fun _ H2 s3=>Tg.not (Eg.cJ fun Q q=>bx (aA (aj rfl) (aA (aj rfl) (aA (aW (aj rfl) (s3 _ _ hx) c T.fJ rfl) (aA (aj rfl) bA)))) ⟨b,m,p.behind,x,h,pb,rfl,(G.same s2).same s3,hbl,q⟩)) (fun e H2 s3=>?_) (fun e H2 s3=>?_)
   ·rw[e,if_pos rfl]at es
    refine Hg (aj rfl) (s3 _ _ hL2) (aW (aj rfl) (s3 _ _ hx) c T.qZ rfl _ ⟨L,_,_,rfl,rfl,s3 _ _ hL2,?_,?_⟩)
    ·rw[bR]
     have:=Jp h m x (ps.take j);have h2:(ps.take j).length≤ps.length:=by rw[List.length_take];omega
     exact cB (by omega)
    ·refine⟨_,rfl,jd (s2.trans s3) nL,?_⟩
     rw[aq,es,vh];rfl
   ·rw[e,if_neg (by simp),List.append_nil]at es
    exact⟨_,rfl,s2.trans s3,by rw[es];exact s3 _ _ hL2⟩
  ·rintro σ H' ⟨v4,rfl,s2,hL2⟩
   rw[List.length_map,r2,List.take_length]at hL2;exact jx (v:= .ref L) (aj rfl) (k H' L s2 nL hL2)
def Vv (A:Ad):Sp:=fun vs H Q _=>∃(b:Addr) (m r:Nat) (h:Kh.House) (pb:List (List Kd.Pg)),vs=[.ref b, .int m, .int r]∧Gr A H b h pb∧r<h.rooms∧Gives H Q (nV (h.traps (bO h m) r))
theorem Vw (T:Txt K mg A):bK P w K mg base cV 5 A.u9 A.oO ["by_room","bunch","start"] (Vv A):=by
 refine T.m7.fn.ok yt (fun vs H Q E h=>?_) (fun cdv Ar outer s H vs Q E hr h=>?_)
 ·obtain⟨b,m,r,h,pb,rfl,_⟩:=h
  rfl
 ·obtain⟨b,m,r,h,pb,rfl,G,hr0,k⟩:=h
  refine⟨_,(au (bJ (i:=3) yt.nd rfl (by first|exact Or.inl rfl|exact Or.inr rfl) (bL ao))
   (au (rU PassesOwn.never rfl (afO (aH (jJ T) (hr.mono (by decide)) rfl T.bY.mg T.bY.fn.kp (lJ T) .nil aP (ak (pv 0) (ak (pv 1) (ak (pv 2) ao))))) (cO (i:=4) yt.nd rfl (by first|exact Or.inl rfl|exact Or.inr rfl))
    (aB (iH (rA PySem.F.plainAttrs_list PySem.F.slot_list_extend PySem.F.type_list_extend Tc (pv 3) (ak (aH (MP T) (hr.mono (by decide)) rfl T.je.mg T.je.fn.kp (O2 T) .nil aP (ak (pv 0) (ak (pv 1) (ak (pv 4) ao)))) ao)))))
   (aB (aL (bH Td (by rfl) T.Bs yH (ak (pv 3) ao)))))),?_⟩
  have Xo:=G.Xo;have r24:=G.r24;refine dF ⟨Nat.zero_le _,fun L nL=>?_⟩;have s1:Same H (upd H L (.lst [])):=aZ nL;have hL1:upd H L (.lst []) L=some (.lst []):=aq;generalize upd H L (.lst [])=H1 at s1 hL1⊢;have G1:=G.same s1;refine qG (bx (aA (aj rfl) (aA (aj rfl) (aA (aj rfl) bA))) ⟨b,m,r,h,pb,rfl,G1.pat,G.rep,G.doors,G.r24,hr0,fun H2 d ws s2 nd ⟨as,e,hd,_⟩ F=>⟨d,_,rfl,hd,fun o=>?_⟩⟩);have nd0:H d=none:=s1.free nd;have dL:d≠L:=(aQ hL1 nd).symm;have s3:Same H (upd H2 d (.cM o (.dK (fV ws as)))):=jd (s1.trans s2) nd0;have M4:upd H2 d (.cM o (.dK (fV ws as))) L=some (.lst []):=by rw[aJ dL.symm];exact s2 _ _ hL1
  have hd3:upd H2 d (.cM o (.dK (fV ws as))) d=some (.cM o (.dK (fV ws as))):=aq;generalize upd H2 d (.cM o (.dK (fV ws as)))=H3 at s3 M4 hd3⊢;have xlt:∀x∈ws.map (·.1),x<h.rooms:=fun x mx=>by
   obtain⟨q,mq,eq⟩:=List.mem_map.mp mx;rw[←eq];exact F.lt q mq
  have mlt:∀j,(Kd.oE h pb m ((ws.map (·.1)).take j)).length≤2*h.doors.length:=fun j=>by
   refine Kd.N8 (Kd.xY G.rep (F.nd.sublist (List.take_sublist _ _)) fun x mx=>xlt x (List.mem_of_mem_take mx)) fun s ms=>?_
   exact((Kd.CP G.rep (fun x mx=>xlt x (List.mem_of_mem_take mx)) s).mp ms).1
  refine agg (fun j σ H'=>∃v4,σ=[some (.ref b),some (.int (m:Int)),some (.int (r:Int)),some (.ref L),v4]∧Same H H'∧H' d=some (.cM o (.dK (fV ws as)))∧H' L=some (.lst (nV (Kd.oE h pb m ((ws.map (·.1)).take j))))) ?_ ?_ ?_ ?_
  ·exact⟨none,rfl,s3,hd3,M4⟩
  ·rintro j σ H' hj ⟨v4,rfl,s4,wC,M5⟩
   exact wC
  ·rintro j ky v σ H' hj ⟨v4,rfl,s4,wC,M5⟩
   have hjl:j<ws.length:=by
    have:=(List.getElem?_eq_some_iff.mp hj).1
    rwa [Bx e]at this
   obtain⟨q,hq⟩:∃q,ws[j]?=some q:=⟨ws[j],List.getElem?_eq_getElem hjl⟩
   have ek:ky=Sum.inl ((q.1:Nat):Int):=by
    have e1:((fV ws as).map (·.1))[j]?=some ky:=by rw[List.getElem?_map,hj];rfl
    rw[Ih e,List.getElem?_map,List.getElem?_map,hq]at e1;exact(Option.some.inj e1).symm
   subst ek;have hqr:=F.lt q (List.mem_of_getElem? hq);obtain⟨ps,hps⟩:∃ps,pb[q.1]?=some ps:=⟨pb[q.1]'(by rw[G.rep.len];exact hqr),List.getElem?_eq_getElem _⟩
   have hx:(ws.map (·.1))[j]?=some q.1:=by rw[List.getElem?_map,hq];rfl
   refine ahN (aj (v:= .ref L) rfl) M5 (cu (bx (aA (aj rfl) (aA (aj rfl) (aA (aj (v:= .int ((q.1:Nat):Int)) rfl) bA))) ⟨b,m,q.1,h,pb,ps,rfl,G.same s4,hps,fun H5 D s5 nD hD=>⟨L,D,_,_,rfl,rfl,s5 _ _ M5,hD,?_,?_⟩⟩))
   ·rw[bR,bR]
    have:=mlt j;have:=Jp h m q.1 ps;have:=Vt G.rep hps;exact Nat.le_of_lt (cB (by omega))
   ·refine⟨_,rfl,jd (s4.trans s5) nL,?_,?_⟩
    ·rw[aJ dL]
     exact s5 _ _ wC
    ·rw[aq,Kd.take_snoc hx,Kd.Wt h pb m _ q.1 hps,vh]
  ·rintro σ H' ⟨v4,rfl,s4,wC,M5⟩
   have ml:=mlt ws.length;rw[Bx e]at M5;rw[show(ws.map (·.1)).take ws.length=ws.map (·.1)from List.take_of_length_le (by rw[List.length_map];exact Nat.le_refl _)]at M5 ml;dsimp only;refine bQ ?_;refine aj (v:= .ref L) rfl _ ⟨L,Kd.iz (Kd.oE h pb m (ws.map (·.1))),rfl,by rw[uh];exact aU M5,?_,fun ns p g1 g2 np=>?_⟩
   ·show(List.map _ _).length<64
    rw[List.length_map];omega
   ·rw[Kd.CN g1 g2 (Kd.xY G.rep F.nd xlt) (Kd.dB _ (Kd.eE _)) fun x=>Kd.afN G.doors G.rep hr0 F x,uh]
    exact k _ p (s4.trans (aZ np)) (s4.free np) aq
end
end Kq
end
section
namespace Kq
open PySem PySem.Spec PyProof.Rows L2 Hk Hs
theorem ai2 {ws:Kd.Ws}{as:List Addr}(e:as.length=ws.length){j:Nat}{ky:L2.Key}{v:V}(hj:(fV ws as)[j]?=some (ky,v)):∃q,ws[j]?=some q∧ky=Sum.inl ((q.1:Nat):Int):=by
 have hjl:j<ws.length:=by
  have:=(List.getElem?_eq_some_iff.mp hj).1
  rwa [Bx e]at this
 obtain⟨q,hq⟩:∃q,ws[j]?=some q:=⟨ws[j],List.getElem?_eq_getElem hjl⟩
 refine⟨q,hq,?_⟩;have e1:((fV ws as).map (·.1))[j]?=some ky:=by rw[List.getElem?_map,hj];rfl
 rw[Ih e,List.getElem?_map,List.getElem?_map,hq]at e1;exact(Option.some.inj e1).symm
theorem aaQ {α:Type}(f:α→Bool) (l:List α) (x:α):(l++[x]).filter f=l.filter f++(if f x=true then[x]else[]):=by
 rw[List.filter_append,List.filter_cons,List.filter_nil]
theorem ai3 {ta td:TE}{σ:L2.St}{H:Hp}{d:Addr}{ws:Kd.Ws}{as:List Addr}{x:Nat}(ha:Ev ta σ H (.int (x:Int))) (hb:Ev td σ H (.ref d)) (hd:Rd H d (.dK (fV ws as))) (e:as.length=ws.length) (nd:(ws.map (·.1)).Nodup):Ev (ajs ta td) σ H (.bl (decide (x∈ws.map (·.1)))):=
 fun Q q=>ha _ (hb _ ⟨d,_,rfl, .inl ⟨_,Sum.inl (x:Int),hd,rfl,rfl⟩,by rw[aaP e nd];exact q⟩)
section
variable {P:Program}{w:World}{K:PySem.W.Frag}{mg:Str→Option Value}{base:Heap}{A:Ad}
def Ao (A:Ad):Sp:=fun vs H Q _=>∃(b:Addr) (m:Nat) (h:Kh.House) (pb:List (List Kd.Pg)),vs=[.ref b, .int m]∧Gr A H b h pb∧Gives H Q (nV ((List.range h.rooms).map (h.part (bO h m))))
theorem Aq (T:Txt K mg A):bK P w K mg base cV 3 A.gR A.eV ["by_room","bunch"] (Ao A):=by
 refine T.dI.fn.ok bZ (fun vs H Q E h=>?_) (fun cdv Ar outer s H vs Q E hr h=>?_)
 ·obtain⟨b,m,h,pb,rfl,_⟩:=h
  rfl
 ·obtain⟨b,m,h,pb,rfl,G,k⟩:=h
  have hu:=FQ hr;refine⟨_,(au (bJ (i:=2) bZ.nd rfl (by first|exact Or.inl rfl|exact Or.inr rfl) (pW rfl bZ.nd (lQ rfl T.ud (ak (bH cA (by rfl) T.fK dG (ak (pv 0) ao)) ao)) (gP (N:=["by_room","bunch","reached","room","least","other"]) (sc:=aF eZ) (own:=[("room",3)]) rfl (by decide+kernel)) (fun _ _ _ _ _=>(cO (i:=3) bZ.nd rfl (by first|exact Or.inl rfl|exact Or.inr rfl))) (fun _ _ _ _ _=>nZ) (fun _ _ _ _ _=>(aH (jJ T) (hr.mono (by decide)) rfl T.bY.mg T.bY.fn.kp (lJ T) .nil aP (ak (pv 0) (ak (pv 1) (ak (pv 3) ao)))))))
   (au (bJ (i:=4) bZ.nd rfl (by first|exact Or.inl rfl|exact Or.inr rfl) (bL ao))
   (au (rU PassesOwn.never rfl (lQ rfl T.ud (ak (bH cA (by rfl) T.fK dG (ak (pv 0) ao)) ao)) (cO (i:=3) bZ.nd rfl (by first|exact Or.inl rfl|exact Or.inr rfl))
    (aB (Tp (iH (rA PySem.F.plainAttrs_list PySem.F.slot_list_append PySem.F.type_list_append fW (pv 4) (ak (bH (aiv rfl) (by rfl) T.ahz ae6 (ak (pW rfl bZ.nd (ag4 (bG bw (pv 2) (pv 3) (fun _ _=>rfl))) (gP (N:=["by_room","bunch","reached","room","least","other"]) (sc:=aF eZ) (own:=[("other",5)]) rfl (by decide+kernel)) (fun _ _ _ _ _=>(cO (i:=5) bZ.nd rfl (by first|exact Or.inl rfl|exact Or.inr rfl))) (fun _ _ _ _ _=>(rY (Kz (aeW hu (pv 3) (bG (ab9 K rfl) (pv 2) (pv 5) (fun _ _=>rfl)))))) (fun _ _ _ _ _=>(pv 5))) ao)) ao))))))
   (aB (aL (pv 4)))))),?_⟩
  have r24:=G.r24;obtain⟨ls,b1,b2,b3⟩:=id G.pat
  -- reached
  refine dF (afc (n:=h.rooms) (fun Q q=>dH (aj rfl) (aU b1) _ (by rw[List.length_map,b2,G.rep.len];exact q)) (by omega) fun D hD=>?_);refine Bg (n:=h.rooms) (fun i H'=>∃ds,Acc H D (rV ds) H'∧ds.length=i∧∀(j:Nat) d,ds[j]?=some d→∃ws as,Kd.Found h (bO h m) j ws∧as.length=ws.length∧H' d=some (.dK (fV ws as))) ⟨[],Acc.start hD,rfl,fun j d e=>by simp at e⟩ ?_ ?_
  ·rintro i H' hi ⟨ds,acc,hl,hds⟩
   rw[Int.zero_add];refine⟨rfl,bx (aA (aj rfl) (aA (aj rfl) (aA (aj rfl) bA))) ⟨b,m,i,h,pb,rfl,(G.same acc.same).pat,G.rep,G.doors,G.r24,hi,fun H2 d ws s2 nd ⟨as,e,hd,_⟩ F=>⟨rV ds,s2 _ _ acc.lst,cB (by rw[List.length_map];omega),ds++[d],?_,by rw[List.length_append,hl];rfl,fun j d' e1=>?_⟩⟩⟩
   ·rw[Ei]
    exact acc.push s2 hD _
   ·rcases cX e1 with⟨q1,q2⟩|⟨q1,q2⟩
    ·obtain⟨ws',as',F',e',hd'⟩:=hds j d' q2
     have hd2:=s2 _ _ hd';refine⟨ws',as',F',e',?_⟩;rw[aJ (eX hd2 (s2 _ _ acc.lst) fun z=>nomatch z)];exact hd2
    ·subst q2
     rw[hl]at q1;subst q1;refine⟨ws,as,F,e,?_⟩;rw[aJ (eX hd (s2 _ _ acc.lst) fun z=>nomatch z)];exact hd
  ·rintro H1 ⟨ds,acc,hl,hds⟩
   have s1:=acc.same;have hD1:=acc.lst
   -- least=[]
   refine dF ⟨Nat.zero_le _,fun L nL=>?_⟩;have s2:Same H1 (upd H1 L (.lst [])):=aZ nL;have hL2:upd H1 L (.lst []) L=some (.lst []):=aq;generalize upd H1 L (.lst [])=H2 at s2 hL2⊢;refine qG (acX (n:=h.rooms) (fun Q q=>dH (aj rfl) (aU ((s1.trans s2) _ _ b1)) _ (by rw[List.length_map,b2,G.rep.len];exact q)) (by omega) (fun i σ H'=>∃v3 v5,σ=[some (.ref b),some (.int (m:Int)),some (.ref D),v3,some (.ref L),v5]∧Same H1 H'∧H' L=some (.lst (nV ((List.range i).map (h.part (bO h m)))))) ?_ ?_ ?_)
   ·exact⟨_,_,rfl,s2,hL2⟩
   ·rintro i σ H' hi ⟨v3,v5,rfl,s3,M4⟩
    obtain⟨d,hdi⟩:∃d,ds[i]?=some d:=⟨ds[i]'(by rw[hl];exact hi),List.getElem?_eq_getElem _⟩
    obtain⟨ws,as,F,e,hd⟩:=hds i d hdi;have hd3:=s3 _ _ hd;refine⟨d,_,hd3,trivial,fun od=>?_⟩;have dL:d≠L:=eX hd3 M4 fun z=>nomatch z
    have lk:∀x o,H' x=some o→x≠d→upd H' d (.cM od (.dK (fV ws as))) x=some o:=fun x o ex n=>by rw[aJ n];exact ex
    have wC:upd H' d (.cM od (.dK (fV ws as))) d=some (.cM od (.dK (fV ws as))):=aq;have M5:=lk _ _ M4 dL.symm;have hD4:=lk _ _ (s3 _ _ hD1) (eX (s3 _ _ hD1) hd3 fun z=>nomatch z);have ajB:∀(x:Nat) dx,ds[x]?=some dx→∃ws' as',Kd.Found h (bO h m) x ws'∧as'.length=ws'.length∧Rd (upd H' d (.cM od (.dK (fV ws as)))) dx (.dK (fV ws' as')):=fun x dx ex=>by
     obtain⟨ws',as',F',e',hd'⟩:=hds x dx ex;refine⟨ws',as',F',e',?_⟩;by_cases c:dx=d
     ·rw[c]at hd'⊢
      rw[hd]at hd';have:fV ws as=fV ws' as':=by injection hd' with z;injection z
      rw[←this];exact .inr ⟨_,aq⟩
     ·exact .inl (by rw[aJ c];exact s3 _ _ hd')
    have xlt:∀q∈ws,q.1<h.rooms:=F.lt
    have s4:∀x o,H1 x=some o→x≠d→upd H' d (.cM od (.dK (fV ws as))) x=some o:=fun x o ex n=>lk x o (s3 _ _ ex) n
    generalize upd H' d (.cM od (.dK (fV ws as)))=H4 at wC M5 hD4 ajB s4⊢;have wsz:=F.size
    -- least.append(min([..]))
    refine Hg (aj (v:= .ref L) rfl) M5 (cu ?_);refine cu (ahO (o:=od) (bI (j:=i) (v:= .ref d) (aj rfl) (aj rfl) (aU hD4) (by rw[List.getElem?_map,hdi];rfl)) wC fun D2 nD2=>?_);refine ahT (fun j H5=>Acc H4 D2 (nV (((ws.map (·.1)).take j).filter fun x=>h.leads (bO h m) x i)) H5) (Acc.start nD2) (fun j H5 hj zK=>zK.same _ _ wC) (fun j ky v H5 hj zK=>?_) (fun H5 zK=>?_)
    ·obtain⟨q,hq,rfl⟩:=ai2 e hj
     have hqr:=xlt q (List.mem_of_getElem? hq);obtain⟨dx,hdx⟩:∃dx,ds[q.1]?=some dx:=⟨ds[q.1]'(by rw[hl];exact hqr),List.getElem?_eq_getElem _⟩
     obtain⟨ws',as',F',e',rd'⟩:=ajB q.1 dx hdx;have rd5:Rd H5 dx (.dK (fV ws' as')):=by
      rcases rd' with z|⟨o',z⟩
      ·exact .inl (zK.same _ _ z)
      ·exact .inr ⟨o',zK.same _ _ z⟩
     have hx:(ws.map (·.1))[j]?=some q.1:=by rw[List.getElem?_map,hq];rfl
     refine⟨rfl,Ev.cJ (ai3 (x:=i) (aj rfl) (bI (j:=q.1) (v:= .ref dx) (aj rfl) (aj rfl) (aU (zK.same _ _ hD4)) (by rw[List.getElem?_map,hdx];rfl)) rd5 e' F'.nd) _ ?_⟩;rw[F'.leads G.doors hqr];have es:=aaQ (fun x=>h.leads (bO h m) x i) ((ws.map (·.1)).take j) q.1;rw[←Kd.take_snoc hx]at es;cases c:h.leads (bO h m) q.1 i with
     |false=>
      rw[c,if_neg (by simp),List.append_nil]at es;show Acc H4 D2 (nV (((ws.map (·.1)).take (j+1)).filter fun x=>h.leads (bO h m) x i)) H5;rw[es];exact zK
     |true=>
      rw[c,if_pos rfl]at es;refine⟨_,rfl,_,zK.lst,?_,?_⟩
      ·rw[bR]
       have h1:=List.length_filter_le (fun x=>h.leads (bO h m) x i) ((ws.map (·.1)).take j);have h2:((ws.map (·.1)).take j).length≤ws.length:=by rw[List.length_take,List.length_map];omega
       exact cB (by omega)
      ·rw[es,vh]
       exact zK.push (same_refl _) nD2 _
    ·rw[Bx e,show(ws.map (·.1)).take ws.length=ws.map (·.1)from List.take_of_length_le (by rw[List.length_map];exact Nat.le_refl _)]at zK
     have ii:h.leads (bO h m) i i=true:=(Kd.iw G.doors hi).mpr .base;refine⟨D2,Kd.iz ((ws.map (·.1)).filter fun x=>h.leads (bO h m) x i),rfl,by rw[uh];exact aU zK.lst,?_,fun mn mm ml=>?_⟩
     ·show 0<(List.map _ _).length
      rw[List.length_map];exact List.length_pos_of_mem (List.mem_filter.mpr ⟨(F.mem i).mpr .base,ii⟩)
     ·obtain⟨n,hn,rfl⟩:=List.mem_map.mp mm
      rw[List.mem_filter]at hn;have pe:h.part (bO h m) i=n:=by
       refine Kd.ahh G.doors hi ⟨(Kd.iw G.doors hi).mpr ((F.mem n).mp hn.1),hn.2⟩ fun x h1 h2=>?_
       have:=ml (x:Int) (List.mem_map.mpr ⟨x,List.mem_filter.mpr ⟨(F.mem x).mpr ((Kd.iw G.doors hi).mp h1),h2⟩,rfl⟩);omega
      have hL5:=zK.same _ _ M5;refine⟨L,_,_,rfl,rfl,hL5,cB (by rw[bR,List.length_map,List.length_range];omega),?_⟩;have hd5:=zK.same _ _ wC;refine⟨by rw[aJ dL];exact hd5,_,_,rfl,fun x o ex=>?_,?_⟩
      ·by_cases c:x=d
       ·subst c
        rw[aq];rw[hd]at ex;exact ex
       ·rw[aJ c,aJ (aQ ex nL)]
        exact zK.same _ _ (s4 x o ex c)
      ·rw[aJ dL.symm,aq,List.range_succ,List.map_append,vh,←pe]
       rfl
   ·rintro σ H' ⟨v3,v5,rfl,s3,M4⟩
    exact jx (v:= .ref L) (aj rfl) (k H' L (s1.trans s3) (s1.free nL) M4)
end
end Kq
end
section
namespace Kq
open PySem PySem.Spec PyProof.Rows L2 Hk Hs
theorem aaR (x:Nat):∀y,(x ^^^ y)+2*(x&&&y)=x+y:=by
 induction x using Nat.strongRecOn with
 |_ x ih=>
  intro y;by_cases h:x=0
  ·subst h;simp
  ·have i:=ih (x/2) (by omega) (y/2)
   have e1:(x ^^^ y)/2=x/2 ^^^ y/2:=Nat.xor_div_two;have e2:(x&&&y)/2=x/2&&&y/2:=Nat.and_div_two;have e3:(x ^^^ y)%2=1↔¬(x%2=1↔y%2=1):=Nat.xor_mod_two_eq_one;have e4:(x&&&y)%2=1↔x%2=1∧y%2=1:=Nat.and_mod_two_eq_one;have b1:(x&&&y)%2=0∨(x&&&y)%2=1:=by omega
   have b2:(x ^^^ y)%2=0∨(x ^^^ y)%2=1:=by omega
   have b3:x%2=0∨x%2=1:=by omega
   have b4:y%2=0∨y%2=1:=by omega
   rcases b1 with b1|b1<;>rcases b2 with b2|b2<;>rcases b3 with b3|b3<;>rcases b4 with b4|b4<;>simp[b1,b2,b3,b4]at e3 e4<;>omega
theorem ahU {t:TA}{D:Ends}{σ:L2.St}{H:Hp}{vs:List V}(h:Ea t σ H vs) (hl:vs.length≤30000) (k:∀p,H p=none→D.rt (.ref p) (upd H p (.tup vs))):Iv (agK t) D σ H:=h _ ⟨Nat.le_of_lt (cB hl),k⟩
section
variable {P:Program}{w:World}{K:PySem.W.Frag}{mg:Str→Option Value}{base:Heap}{A:Ad}
def ac1:Sp:=fun vs H Q _=>∃(m:Nat),vs=[.int m]∧Gives H Q (nV (Kh.bunchOf 8 m))
theorem zL (T:Txt K mg A):bK P w K mg base cV 2 A.Dv A.vK ["bunch"] ac1:=by
 refine T.iD.fn.ok GC (fun vs H Q E h=>?_) (fun cdv Ar outer s H vs Q E hr h=>?_)
 ·obtain⟨m,rfl,_⟩:=h
  rfl
 ·obtain⟨m,rfl,k⟩:=h
  refine⟨_,(aB (aL (pW rfl GC.nd (lQ rfl T.ud (ak (aY (v:= .int 8) rfl T.Mr ⟨_,rfl⟩) ao)) (gP (N:=["bunch","key"]) (sc:=aF Dg) (own:=[("key",1)]) rfl (by decide+kernel)) (fun _ _ _ _ _=>(cO (i:=1) GC.nd rfl (by first|exact Or.inl rfl|exact Or.inr rfl))) (fun _ _ _ _ _=>(rY (dj (aH (G6 T) (hr.mono (by decide)) rfl T.jW.mg T.jW.fn.kp (J1 T) .nil aP (ak (pv 0) (ak (pv 1) ao)))))) (fun _ _ _ _ _=>(pv 1))))),?_⟩;exact bQ (aaO (n:=8) (f:=fun i=>m.testBit i) aV (by decide) (fun _=>rfl) (fun _=>rfl) (fun j H' hj s1=>Tv.tg (Ev.cJ (gn (aj rfl) (aj rfl) fun Q q=>⟨m,j,rfl,q⟩))) _ k)
def J9:Sp:=fun vs H Q _=>∃(m:Nat),vs=[.int m]∧∀H' t l,Same H H'→H' t=some (.tup [.int ((Kh.bunchOf 8 m).length:Nat), .ref l])→H' l=some (.lst (nV (Kh.bunchOf 8 m)))→Q (.ref t) H'
theorem Ka (T:Txt K mg A):bK P w K mg base cV 3 A.nJ A.jl ["bunch"] J9:=by
 refine T.gU.fn.ok yu (fun vs H Q E h=>?_) (fun cdv Ar outer s H vs Q E hr h=>?_)
 ·obtain⟨m,rfl,_⟩:=h
  rfl
 ·obtain⟨m,rfl,k⟩:=h
  refine⟨_,(au (bJ (i:=1) yu.nd rfl (by first|exact Or.inl rfl|exact Or.inr rfl) (aH (zL T) (hr.mono (by decide)) rfl T.iD.mg T.iD.fn.kp (Ed T) .nil aP (ak (pv 0) ao)))
   (aB (aL (Ca (ak (bH cA (by rfl) T.fK dG (ak (pv 1) ao)) (ak (pv 1) ao)))))),?_⟩
  refine dF (bx (aA (aj rfl) bA) ⟨m,rfl,fun H1 l s1 nl hl=>?_⟩);refine ahU (aA (dH (aj rfl) (aU hl)) (aA (aj (v:= .ref l) rfl) bA)) (by show 2≤30000;decide) fun t nt=>?_
  refine k _ t l (s1.trans (aZ nt)) ?_ (aZ nt _ _ hl);rw[aq,bR]
def Hh:Sp:=fun vs H Q _=>∃(m:Nat),vs=[.int m]∧m<256∧∀(ns:List Nat),ns.Perm (Kd.Ly m)→ns.Pairwise (fun x y=>Kd.Before (Kh.bunchOf 8 x) (Kh.bunchOf 8 y))→Gives H Q (nV ns)
theorem Hi (T:Txt K mg A):bK P w K mg base cV 6 A.j4 A.gH ["bunch"] Hh:=by
 refine T.fO.fn.ok oG (fun vs H Q E h=>?_) (fun cdv Ar outer s H vs Q E hr h=>?_)
 ·obtain⟨m,rfl,_⟩:=h
  rfl
 ·obtain⟨m,rfl,hm,k⟩:=h
  refine⟨_,(au (Hx (i:=1) rfl oG.nd rfl rfl rfl (lQ rfl T.ud (ak (dw BX (pv 0) aO) ao)) (gP (N:=["bunch","parts","part"]) (sc:=aF jY) (own:=[("part",2)]) rfl (by decide+kernel)) (fun _ _ _ _ _=>(cO (i:=2) oG.nd rfl (by first|exact Or.inl rfl|exact Or.inr rfl))) (fun _ _ _ _ _=>(rY (bM dW (dw R4 (pv 2) (pv 0)) (pv 2) (bD _)))) (fun _ _ _ _ _=>(pv 2)))
   (aB (aL (Wx (Ka T) (hr.mono (by decide)) rfl T.Bs yH rfl T.gU.mg T.gU.fn.kp (Mu T) (pv 1))))),?_⟩
  refine dF (aaO (n:=m+1) (f:=fun p=>decide (p&&&m=p)) (yW (y:=1) (aj rfl) aV) (by omega) (fun _=>rfl) (fun _=>rfl) (fun j H' hj s1=>Tv.tg (Ev.cG (dh (acU (aj rfl) (aj rfl)) (aj rfl)))) _ fun H1 D s1 nD hD=>?_);have hlen:=Kd.bB (m+1) fun p=>decide (p&&&m=p)
  refine bQ (aj (v:= .ref D) rfl _ ⟨D,Kd.Ly m,fun n=>Kh.bunchOf 8 n,rfl,aU hD,by show(List.filter _ _).length≤1000;omega,fun n _=>Nat.le_trans (Kd.jz 8 n) (by decide),fun n _ H2 Q2 s2 k2=>⟨n,rfl,k2⟩,fun ns H' p s2 np hp pm pw=>?_⟩);exact k ns pm pw H' p (s1.trans s2) (s1.free np) hp
def Kc (A:Ad):Sp:=fun vs H Q _=>∃(b:Addr) (m r t:Nat) (back:Bool) (h:Kh.House) (pb:List (List Kd.Pg)),vs=[.ref b, .int m, .int r, .int t, .bl back]∧Gr A H b h pb∧r<h.rooms∧t<h.rooms∧∀H',Same H H'→Q (.bl (h.serves r t back (bO h m))) H'
theorem Ke (T:Txt K mg A):bK P w K mg base cV 4 A.nM A.jm ["by_room","bunch","start","goal","with_back"] (Kc A):=by
 refine T.gW.fn.ok JR (fun vs H Q E h=>?_) (fun cdv Ar outer s H vs Q E hr h=>?_)
 ·obtain⟨b,m,r,t,back,h,pb,rfl,_⟩:=h
  rfl
 ·obtain⟨b,m,r,t,back,h,pb,rfl,G,hr0,ht0,k⟩:=h
  refine⟨_,(au (bU (gq (dj (aH (iZ T) (hr.mono (by decide)) rfl T.bW.mg T.bW.fn.kp (jR T) .nil aP (ak (pv 0) (ak (pv 1) (ak (pv 2) (ak (pv 3) ao)))))))
    (aB (aL Jq))
    bC)
   (aB (aL (adu (aie (pv 4)) (uV (aH (iZ T) (hr.mono (by decide)) rfl T.bW.mg T.bW.fn.kp (jR T) .nil aP (ak (pv 0) (ak (pv 1) (ak (pv 3) (ak (pv 2) ao)))))))))),?_⟩
  unfold Kh.House.serves at k;refine Og (b:= !(h.leads (bO h m) r t)) (Tg.not (Eg.cJ fun Q q=>bx (aA (aj rfl) (aA (aj rfl) (aA (aj rfl) (aA (aj rfl) bA)))) ⟨b,m,r,t,h,pb,rfl,G,hr0,q⟩)) (fun e H1 s1=>?_) (fun e H1 s1=>?_)
  ·rw[Bool.not_eq_true']at e
   rw[e]at k;exact k H1 s1
  ·rw[Bool.not_eq_false']at e
   rw[e]at k;refine bQ (Ev.not (aj rfl) _ ⟨_,rfl,?_⟩);cases back with
   |false=>exact k H1 s1
   |true=>exact bx (aA (aj rfl) (aA (aj rfl) (aA (aj rfl) (aA (aj rfl) bA)))) ⟨b,m,t,r,h,pb,rfl,G.same s1,ht0,fun H2 s2=>k H2 (s1.trans s2)⟩
def Kf (A:Ad):Sp:=fun vs H Q _=>∃(b:Addr) (m r t:Nat) (back:Bool) (h:Kh.House) (pb:List (List Kd.Pg)),vs=[.ref b, .int m, .int r, .int t, .bl back]∧Gr A H b h pb∧r<h.rooms∧t<h.rooms∧h.keys.length≤8∧m<2^h.keys.length∧
 (∀x H',Same H H'→x<2^h.keys.length→h.small (bO h m) r t back=some (bO h x)→Q (.int (x:Nat)) H')∧(∀H',Same H H'→h.small (bO h m) r t back=none→Q .non H')
theorem Kg (T:Txt K mg A):bK P w K mg base cV 7 A.nO A.jo ["by_room","bunch","start","goal","with_back"] (Kf A):=by
 refine T.gY.fn.ok yw (fun vs H Q E h=>?_) (fun cdv Ar outer s H vs Q E hr h=>?_)
 ·obtain⟨b,m,r,t,back,h,pb,rfl,_⟩:=h
  rfl
 ·obtain⟨b,m,r,t,back,h,pb,rfl,G,hr0,ht0,hK,hm,k1,k2⟩:=h
  refine⟨_,(au (rU PassesOwn.never rfl (iI (aH (Hi T) (hr.mono (by decide)) rfl T.fO.mg T.fO.fn.kp (Ik T) .nil aP (ak (pv 1) ao))) (cO (i:=5) yw.nd rfl (by first|exact Or.inl rfl|exact Or.inr rfl))
    (aB (bU (dj (aH (Ke T) (hr.mono (by decide)) rfl T.gW.mg T.gW.fn.kp (Mv T) .nil aP (ak (pv 0) (ak (pv 5) (ak (pv 2) (ak (pv 3) (ak (pv 4) ao)))))))
     (aB (aL (pv 5)))
     bC)))
   (aB (aL BW))),?_⟩
  have hm8:m<256:=Nat.lt_of_lt_of_le hm (Nat.le_trans (Nat.pow_le_pow_right (by decide) hK) (by decide));refine qG (bx (aA (aj rfl) bA) ⟨m,rfl,hm8,fun ns pm pw H1 D s1 nD hD=>⟨D,rfl,⟨_,aU hD⟩,?_⟩⟩);have xlt:∀x∈ns,x<2^h.keys.length:=fun x mx=>by
   have:=Kd.YQ (Kd.zm.mp (pm.mem_iff.mp mx));omega
  have pw':ns.Pairwise fun x y=>Kd.Before (bO h x) (bO h y):=by
   rw[List.pairwise_iff_forall_sublist]at pw⊢;intro x y hs;have:=pw hs;rw[Kd.qb hK (xlt x (hs.subset (by simp))),Kd.qb hK (xlt y (hs.subset (by simp)))]at this;exact this
  obtain⟨l1,l2⟩:=Kd.afL (p:=h.serves r t back) hm pm pw';have hl:ns.length≤256:=by
   rw[pm.length_eq];have:=Kd.bB (m+1) fun p=>decide (p&&&m=p)
   show(List.filter _ _).length≤256;omega
  refine NK (K:=K) (a:=D) (xs:=nV ns) (fun i σ H'=>∃v5,σ=[some (.ref b),some (.int (m:Int)),some (.int (r:Int)),some (.int (t:Int)),some (.bl back),v5]∧Same H1 H'∧∀x∈ns.take i,h.serves r t back (bO h x)=false) ?_ ?_ ?_ ?_
  ·exact⟨none,rfl,same_refl _,fun x mx=>by simp at mx⟩
  ·rintro i σ H' hi ⟨v5,rfl,s2,no⟩
   exact aU (s2 _ _ hD)
  ·rintro i y σ H' hi ⟨v5,rfl,s2,no⟩
   obtain⟨x,hx,rfl⟩:=ug hi;refine ad6 (b:=h.serves r t back (bO h x)) (Eg.cJ fun Q q=>bx (aA (aj rfl) (aA (aj rfl) (aA (aj rfl) (aA (aj rfl) (aA (aj rfl) bA))))) ⟨b,x,r,t,back,h,pb,rfl,(G.same s1).same s2,hr0,ht0,q⟩) (fun e H2 s3=>?_) (fun e H2 s3=>?_)
   ·have ef:ns.find? (fun x=>h.serves r t back (bO h x))=some x:=by
     have e1:ns=ns.take i++(x::ns.drop (i+1)):=by
      have hi':=(List.getElem?_eq_some_iff.mp hx);rw[←hi'.2,List.getElem_cons_drop,List.take_append_drop]
     rw[e1,List.find?_append];have:(ns.take i).find? (fun x=>h.serves r t back (bO h x))=none:=by
      rw[List.find?_eq_none];intro y my;rw[no y my];simp
     rw[this];show(match h.serves r t back (bO h x)with|true=>some x|false=>_)=some x;rw[e]
    have L:=l1 x ef;refine jx (v:= .int (x:Int)) (aj rfl) (k1 x H2 ((s1.trans s2).trans s3) (xlt x (List.mem_of_getElem? hx)) ?_);exact Kd.afH G.doors hr0 ht0 (Kd.dZ _ _) L
   ·refine⟨_,rfl,s2.trans s3,fun y my=>?_⟩
    rw[Kd.take_snoc hx]at my;rcases List.mem_append.mp my with my|my
    ·exact no y my
    ·rw[List.mem_singleton]at my
     rw[my];exact e
  ·rintro σ H' ⟨v5,rfl,s2,no⟩
   rw[bR,List.take_length]at no;dsimp only;refine jx (v:= .non) aV (k2 H' (s1.trans s2) (Kd.abU (l2 ?_)));rw[List.find?_eq_none];intro y my;rw[no y my];simp
def Rr (A:Ad):Sp:=fun vs H Q _=>∃(b:Addr) (m r t:Nat) (h:Kh.House) (pb:List (List Kd.Pg)),vs=[.ref b, .int m, .int r, .int t]∧Gr A H b h pb∧r<h.rooms∧h.keys.length≤8∧m<2^h.keys.length∧Gives H Q (nV (h.needed (bO h m) r t))
theorem QH (a b:Nat):Builtin.bitXor (a:Int) (b:Int)=((a ^^^ b:Nat):Int):=by
 rw[bitXor_and,zH];have:=aaR a b;omega
theorem Rt (T:Txt K mg A):bK P w K mg base cV 4 A.tU A.mO ["by_room","bunch","start","goal"] (Rr A):=by
 refine T.lA.fn.ok wj (fun vs H Q E h=>?_) (fun cdv Ar outer s H vs Q E hr h=>?_)
 ·obtain⟨b,m,r,t,h,pb,rfl,_⟩:=h
  rfl
 ·obtain⟨b,m,r,t,h,pb,rfl,G,hr0,hK,hm,k⟩:=h
  refine⟨_,(aB (aL (pW rfl wj.nd (iI (aH (zL T) (hr.mono (by decide)) rfl T.iD.mg T.iD.fn.kp (Ed T) .nil aP (ak (pv 1) ao))) (gP (N:=["by_room","bunch","start","goal","key"]) (sc:=aF sX) (own:=[("key",4)]) rfl (by decide+kernel)) (fun _ _ _ _ _=>(cO (i:=4) wj.nd rfl (by first|exact Or.inl rfl|exact Or.inr rfl))) (fun _ _ _ _ _=>(rY (gq (dj (aH (iZ T) (hr.mono (by decide)) rfl T.bW.mg T.bW.fn.kp (jR T) .nil aP (ak (pv 0) (ak (dw aik (pv 1) (dw Zm aO (pv 4))) (ak (pv 2) (ak (pv 3) ao))))))))) (fun _ _ _ _ _=>(pv 4))))),?_⟩;have hl:=Kd.jz 8 m;refine bQ (Zb (K:=K) (xs:=nV (Kh.bunchOf 8 m)) (bs:=(Kh.bunchOf 8 m).map fun x=> !(h.leads ((bO h m).filter fun y=>y !=x) r t)) ?_ (by rw[bR];omega) (by rw[List.length_map,bR]) (fun _=>rfl) (fun _=>rfl) ?_ _ fun H2 D s2 nD hD=>?_)
  ·intro Q kq
   exact bx (aA (aj rfl) bA) ⟨m,rfl,kq⟩
  ·intro j x bb H2 hx hbb s2
   obtain⟨n,hn,rfl⟩:=ug hx;rw[List.getElem?_map,hn]at hbb;cases hbb;have mn:=Kd.dD.mp (List.mem_of_getElem? hn);refine Tg.not (Eg.cJ fun Q kq=>?_);have ex:∀H,Ev (rz (za fun i j=> .int (Builtin.bitXor i j)) (Er 1) (rz (rI agD fun i j=> .int (i*2^j.toNat)) (tC (.int 1)) (Er 4))) [some (.ref b),some (.int (m:Int)),some (.int (r:Int)),some (.int (t:Int)),some (.int (n:Int))] H (.int ((m ^^^ 2^n:Nat):Int)):=fun H Q q=>aj (v:= .int (m:Int)) rfl _ (aaN (k:=n) aV (aj rfl) (by omega) _ ⟨_,_,rfl,rfl,by
    show Q (V.int (Builtin.bitXor (m:Int) ((2^n:Nat):Int))) H;rw[QH];exact q⟩)
   refine bx (aA (aj rfl) (aA (ex H2) (aA (aj rfl) (aA (aj rfl) bA)))) ⟨b,m ^^^ 2^n,r,t,h,pb,rfl,G.same s2,hr0,?_⟩;show∀(H':Hp),Same H2 H'→Q (V.bl (h.leads (Kh.bunchOf h.keys.length (m ^^^ 2^n)) r t)) H'
   rw[Kd.Z0 mn.2];exact kq
  ·rw[Ig,Ej,Kd.qb hK hm]at hD
   exact k H2 D s2 nD hD
end
end Kq
end
section
namespace Kq
open PySem PySem.Spec PyProof.Rows L2 Hk Hs
theorem Ek {A:Ad}{H:Hp}{b:Addr}{h:Kh.House}{cb:List (Nat×List Nat)}{hg:List (Nat×Nat)}(I:Kd.bV h cb hg) (hb:Jo A H b (Kd.rows h (2*h.doors.length))):Gr A H b h (Kd.rows h (2*h.doors.length)):=⟨hb,Kd.afK h,I.doors,I.rooms.2,I.nd⟩
theorem Ij {ta:TE}{σ:L2.St}{H:Hp}{v:V}(ha:Ev ta σ H v):Ev (rz (fun x y H Q=>y= .non∧Q (.bl (decide (x= .non))) H) ta (tC .non)) σ H (.bl (decide (v= .non))):=fun Q q=>ha _ ⟨rfl,q⟩
theorem agh {td ty:TE}{σ:L2.St}{H:Hp}{Q:VK}(h:td σ H fun x H1=>∃a,x= .ref a∧IsD H1 a∧ty σ H1 fun y H2=>∃o,pZ H2 a y o∧Q (o.getD .non) H2):aeY td ty σ H Q:=h
theorem pQ {sp:Sp}{E:XK}{t:TA}{σ:L2.St}{H:Hp}{Q:VK}(h:t σ H fun vs H1=>sp (vs++[]) H1 Q E):NP sp [] E t σ H Q:=h
theorem Em {te:TE}{D:Ends}{σ:L2.St}{H:Hp}{v:V}(he:Ev te σ H v) (g:Gives H D.rt [v]):Iv (SJ (gB te pR)) D σ H:=pP he fun l nl=>g _ l (aZ nl) nl aq
section
variable {P:Program}{w:World}{K:PySem.W.Frag}{mg:Str→Option Value}{base:Heap}{A:Ad}
def ac2:Sp:=fun vs H Q _=>∃(l:Addr) (xs:List Nat),vs=[.ref l]∧H l=some (.lst (nV xs))∧xs.length≤10000∧Gives H Q (iV (HouseNeutral.told (KhRooms.tells xs)))
theorem lO (T:Txt K mg A):bK P w K mg base cV 1 A.Dy A.vL ["numbers"] ac2:=by
 refine T.cW.fn.ok acy (fun vs H Q E h=>?_) (fun cdv Ar outer s H vs Q E hr h=>?_)
 ·obtain⟨l,xs,rfl,_⟩:=h
  rfl
 ·obtain⟨l,xs,rfl,hl,hn,k⟩:=h
  refine⟨_,(aB (aL (dw KZ (bL (ak (bH cA (by rfl) T.fK dG (ak (pv 0) ao)) ao)) (pv 0)))),?_⟩;exact Y8 (l:=l) (fun Q q=>dH (aj rfl) (aU hl) _ (by rw[bR];exact q)) (fun H2 s2=>aj rfl) hl hn fun H2 q s2 hq hq2=>k H2 q s2 hq hq2
def Vx (A:Ad):Sp:=fun vs H Q _=>∃(a lr:Addr) (z:lM) (h:Kh.House) (cb:List (Nat×List Nat)) (hg:List (Nat×Nat)) (m:Nat) (rs:List Nat),vs=[.ref a, .int m, .ref lr]∧bh A H a z h cb hg∧H lr=some (.lst (nV rs))∧rs.length≤10∧
 (¬m<2^h.keys.length→Gives H Q [.int (-1)])∧(m<2^h.keys.length→(rs.any fun r=>decide (h.rooms≤r))=true→Gives H Q [.int (-4)])∧(m<2^h.keys.length→(rs.any fun r=>decide (h.rooms≤r))=false→∀H',Same H H'→Q .non H')
theorem Vy (T:Txt K mg A):bK P w K mg base cV 2 A.vd A.oR ["house","bunch","rooms"] (Vx A):=by
 refine T.m8.fn.ok yC (fun vs H Q E h=>?_) (fun cdv Ar outer s H vs Q E hr h=>?_)
 ·obtain⟨a,lr,z,h,cb,hg,m,rs,rfl,_⟩:=h
  rfl
 ·obtain⟨a,lr,z,h,cb,hg,m,rs,rfl,X,hlr,hn,k1,k2,k3⟩:=h
  have cl:=T.d9.cl;refine⟨_,(au (bU (bM Ft (dw Zn (pv 1) (bH cA (by rfl) T.fK dG (ak (aN (pv 0) rfl) ao))) aO (bD _))
    (aB (aL (bL (ak (aY (v:= .int (-1)) rfl T.rF ⟨_,rfl⟩) ao))))
    bC)
   (au (bU (gq (dj (bH (K5 rfl) (by rfl) T.UL Ml (ak (pW rfl yC.nd (iI (pv 2)) (gP (N:=["house","bunch","rooms","room"]) (sc:=aF uY) (own:=[("room",3)]) rfl (by decide+kernel)) (fun _ _ _ _ _=>(cO (i:=3) yC.nd rfl (by first|exact Or.inl rfl|exact Or.inr rfl))) (fun _ _ _ _ _=>nZ) (fun _ _ _ _ _=>(aH (zJ T) (hr.mono (by decide)) rfl T.iC.mg T.iC.fn.kp (Eb T) .nil aP (ak (pv 0) (ak (pv 3) ao))))) ao))))
    (aB (aL (bL (ak (aY (v:= .int (-4)) rfl T.mC ⟨_,rfl⟩) ao))))
    bC)
   (aB (aL BW)))),?_⟩
  have esh:∀H,bh A H a z h cb hg→Ev (rz (rI (fun _ j=>0≤j) fun i j=> .int (i/2^j.toNat)) (Er 1) (tCB (fun xs H Q=>∃x n,xs=[x]∧agG K x H n∧Q (.int n) H) (gB (Yo K (Er 0) "told_keys") pR))) [some (.ref a),some (.int (m:Int)),some (.ref lr),none] H (.int ((m/2^h.keys.length:Nat):Int)):=fun H X Q q=>
   aj (v:= .int (m:Int)) rfl _ (dH (aW (aj rfl) X.ins cl T.dN rfl) (aU X.iW) _ ⟨_,_,rfl,rfl,Int.natCast_nonneg _,by
    rw[List.length_map,X.oZ];show Q (V.int ((m:Int)/2^((h.keys.length:Int)).toNat)) H;rw[Int.toNat_natCast];rw[show((m:Int)/2^h.keys.length)=((m/2^h.keys.length:Nat):Int) by simp];exact q⟩)
  refine cD (b:= !decide (m/2^h.keys.length=0)) (Ev.cG (HY (y:=0) (esh H X) aV)) (fun e=>?_) (fun e=>?_)
  ·rw[Bool.not_eq_true',decide_eq_false_iff_not]at e
   refine Em aV (k1 fun g=>e (Nat.div_eq_of_lt g))
  ·rw[Bool.not_eq_false',decide_eq_true_iff]at e
   have hm:m<2^h.keys.length:=by
    rcases Nat.div_eq_zero_iff.mp e with g|g
    ·exact absurd g (Nat.ne_of_gt (Nat.two_pow_pos _))
    ·exact g
   have ajC:(rs.map fun r=>decide (r<h.rooms)).all id= !(rs.any fun r=>decide (h.rooms≤r)):=by
    rw[Bool.eq_iff_iff,Bool.not_eq_true',List.all_eq_true,List.any_eq_false];simp
   refine Og (b:= !((rs.map fun r=>decide (r<h.rooms)).all id)) (Tg.not (Eg.cJ (R8 (Bh (xs:=nV rs) (aj rfl) (aU hlr) (by rw[bR];omega) (by simp) (fun _=>rfl) fun j x y H' hx hy s1=>Ev.eg ?_)))) (fun e2 H1 s1=>?_) (fun e2 H1 s1=>?_)
   ·obtain⟨n,hn',rfl⟩:=ug hx
    rw[List.getElem?_map,List.getElem?_map,hn']at hy;have hy:V.bl (decide (n<h.rooms))=y:=Option.some.inj hy;rw[←hy];exact gn (aj rfl) (aj rfl) fun Q q=>⟨a,z,h,cb,hg,n,rfl,X.same s1,q⟩
   ·rw[ajC,Bool.not_not]at e2
    exact Em aV ((k2 hm e2).less s1)
   ·rw[ajC,Bool.not_not]at e2
    exact jx (v:= .non) aV (k3 hm e2 H1 s1)
structure Av (A:Ad) (H:Hp) (a:Addr) (z:lM) (h:Kh.House) (cb:List (Nat×List Nat)) (hg:List (Nat×Nat)) (m:Nat):Prop where
 X:bh A H a z h cb hg
 I:Kd.bV h cb hg
 hm:m<2^h.keys.length
def Xq (A:Ad):Sp:=fun vs H Q _=>∃(a:Addr) (z:lM) (h:Kh.House) (cb:List (Nat×List Nat)) (hg:List (Nat×Nat)) (m r:Nat),vs=[.ref a, .int m, .int r]∧Av A H a z h cb hg m∧r<h.rooms∧Gives H Q (iV (HouseNeutral.told (KhRooms.tells (h.reached (bO h m) r))))
theorem aew {l:List Nat}{n:Nat}(h:Kd.jX l) (hl:∀x∈l,x<n):l.length≤n:=Kd.N8 (Kd.iu h) hl
theorem Xr (T:Txt K mg A):bK P w K mg base cV 5 A.wV A.qx ["house","bunch","start"] (Xq A):=by
 refine T.pI.fn.ok WT (fun vs H Q E h=>?_) (fun cdv Ar outer s H vs Q E hr h=>?_)
 ·obtain⟨a,z,h,cb,hg,m,r,rfl,_⟩:=h
  rfl
 ·obtain⟨a,z,h,cb,hg,m,r,rfl,⟨X,I,hm⟩,hr0,k⟩:=h
  refine⟨_,(aB (aL (aH (lO T) (hr.mono (by decide)) rfl T.cW.mg T.cW.fn.kp (oY T) .nil aP (ak (aH (PJ T) (hr.mono (by decide)) rfl T.jF.mg T.jF.fn.kp (Rc T) .nil aP (ak (aH (cP T) (hr.mono (by decide)) rfl T.aX.mg T.aX.fn.kp (cT T) .nil aP (ak (pv 0) ao)) (ak (pv 1) (ak (pv 2) ao)))) ao)))),?_⟩;refine bQ (cu (cu (bx (aA (aj rfl) bA) ⟨a,z,h,cb,hg,rfl,X,I,fun H1 b s1 nb hb=>?_⟩)));refine aA (aj rfl) (aA (aj rfl) bA) _ ⟨b,m,r,h,_,rfl,Ek I hb,hr0,fun H2 D s2 nD hD=>⟨D,_,rfl,hD,?_,k.less (s1.trans s2)⟩⟩;have key:=Kd.uW I.doors (bO h m) hr0;have:=aew key.1 fun t mt=>Kd.HB I.doors hr0 ((key.2 t).mp mt)
  have:=I.rooms;omega
def ac3 (A:Ad):Sp:=fun vs H Q _=>∃(a:Addr) (z:lM) (h:Kh.House) (cb:List (Nat×List Nat)) (hg:List (Nat×Nat)) (m r t:Nat),vs=[.ref a, .int m, .int r, .int t]∧Av A H a z h cb hg m∧r<h.rooms∧Gives H Q (iV (HouseNeutral.told (match h.way (bO h m) r t with
  |none=>KhRooms.says (-3)
  |some l=>KhRooms.tells l)))
theorem ac4 (T:Txt K mg A):bK P w K mg base cV 5 A.Dz A.vM ["house","bunch","start","goal"] (ac3 A):=by
 refine T.uO.fn.ok QB (fun vs H Q E h=>?_) (fun cdv Ar outer s H vs Q E hr h=>?_)
 ·obtain⟨a,z,h,cb,hg,m,r,t,rfl,_⟩:=h
  rfl
 ·obtain⟨a,z,h,cb,hg,m,r,t,rfl,⟨X,I,hm⟩,hr0,k⟩:=h
  have hu:=FQ hr;refine⟨_,(au (bJ (i:=4) QB.nd rfl (by first|exact Or.inl rfl|exact Or.inr rfl) (afz hu (aH (jJ T) (hr.mono (by decide)) rfl T.bY.mg T.bY.fn.kp (lJ T) .nil aP (ak (aH (cP T) (hr.mono (by decide)) rfl T.aX.mg T.aX.fn.kp (cT T) .nil aP (ak (pv 0) ao)) (ak (pv 1) (ak (pv 2) ao)))) (pv 3) ⟨rfl,rfl,rfl,rfl⟩))
   (au (bU (bM Zq (pv 4) BW (bD _))
    (aB (aL (bL (ak (aY (v:= .int (-3)) rfl T.Bq ⟨_,rfl⟩) ao))))
    bC)
   (aB (aL (aH (lO T) (hr.mono (by decide)) rfl T.cW.mg T.cW.fn.kp (oY T) .nil aP (ak (pv 4) ao)))))),?_⟩
  refine dF (agh (pQ (cu (bx (aA (aj rfl) bA) ⟨a,z,h,cb,hg,rfl,X,I,fun H1 b s1 nb hb=>?_⟩))));have G:=Ek I hb;refine aA (aj rfl) (aA (aj rfl) bA) _ ⟨b,m,r,h,_,rfl,G.pat,G.rep,G.doors,G.r24,hr0,fun H2 d ws s2 nd ⟨as,e,hd,ha,_⟩ F=>⟨d,rfl, .inl ⟨_, .inl hd⟩,aj (v:= .int (t:Int)) rfl _ ⟨_,pZ.k (k:=Sum.inl (t:Int)) hd,?_⟩⟩⟩;by_cases mt:t∈ws.map (·.1)
  ·obtain⟨q,mq,eq⟩:=List.mem_map.mp mt
   obtain⟨i,hi⟩:=List.mem_iff_getElem?.mp mq;obtain⟨la,hai⟩:=j5 e.symm hi;have hav:=ha i la q hai hi;have fq:=F.first q mq;rw[eq]at fq;have ev:mF (fV ws as) (Sum.inl (t:Int))=some (.ref la):=by rw[←eq];exact BJ F.nd hi hai
   rw[ev];rw[Kd.aiC I.doors hr0 fq]at k;refine cD (b:=false) (Ev.cG (Ij (v:= .ref la) (aj rfl))) (fun e=>by cases e) (fun _=>?_);refine bQ (bx (aA (aj (v:= .ref la) rfl) bA) ⟨la,q.2,rfl,hav,?_,k.less (s1.trans s2)⟩);have:=Kd.JF I.doors hr0 fq;have:=I.rooms;omega
  ·rw[Ii e mt]
   rw[Kd.ZG (fun c=>mt ((F.mem t).mpr c))]at k;refine cD (b:=true) (Ev.cG (Ij (v:= .non) (aj rfl))) (fun _=>?_) (fun e=>by cases e);exact Em aV (k.less (s1.trans s2))
def Xu (A:Ad):Sp:=fun vs H Q _=>∃(a:Addr) (z:lM) (h:Kh.House) (cb:List (Nat×List Nat)) (hg:List (Nat×Nat)) (m r t bk:Nat),vs=[.ref a, .int m, .int r, .int t, .int bk]∧Av A H a z h cb hg m∧r<h.rooms∧t<h.rooms∧Gives H Q (iV (HouseNeutral.told (match h.small (bO h m) r t (bk==1)with
  |none=>KhRooms.says (-3)
  |some l=>KhRooms.tells l)))
theorem Xv (T:Txt K mg A):bK P w K mg base cV 8 A.wX A.qz ["house","bunch","start","goal","back"] (Xu A):=by
 refine T.pK.fn.ok Jh (fun vs H Q E h=>?_) (fun cdv Ar outer s H vs Q E hr h=>?_)
 ·obtain⟨a,z,h,cb,hg,m,r,t,bk,rfl,_⟩:=h
  rfl
 ·obtain⟨a,z,h,cb,hg,m,r,t,bk,rfl,⟨X,I,hm⟩,hr0,ht0,k⟩:=h
  refine⟨_,(au (bJ (i:=5) Jh.nd rfl (by first|exact Or.inl rfl|exact Or.inr rfl) (aH (Kg T) (hr.mono (by decide)) rfl T.gY.mg T.gY.fn.kp (Mw T) .nil aP (ak (aH (cP T) (hr.mono (by decide)) rfl T.aX.mg T.aX.fn.kp (cT T) .nil aP (ak (pv 0) ao)) (ak (pv 1) (ak (pv 2) (ak (pv 3) (ak (eY dW (pv 4) aO (bD _)) ao)))))))
   (au (bU (bM Zq (pv 5) BW (bD _))
    (aB (aL (bL (ak (aY (v:= .int (-3)) rfl T.Bq ⟨_,rfl⟩) ao))))
    bC)
   (aB (aL (aH (lO T) (hr.mono (by decide)) rfl T.cW.mg T.cW.fn.kp (oY T) .nil aP (ak (aH (zL T) (hr.mono (by decide)) rfl T.iD.mg T.iD.fn.kp (Ed T) .nil aP (ak (pv 5) ao)) ao)))))),?_⟩
  rw[show(bk==1)=decide (bk=1) by rw[Bool.eq_iff_iff];simp]at k;refine dF (cu (bx (aA (aj rfl) bA) ⟨a,z,h,cb,hg,rfl,X,I,fun H1 b s1 nb hb=>?_⟩));have G:=Ek I hb;refine aA (aj rfl) (aA (aj rfl) (aA (aj rfl) (aA (dh (x:=bk) (y:=1) (aj rfl) aV) bA))) _ ⟨b,m,r,t,decide (bk=1),h,_,rfl,G,hr0,ht0,I.nk,hm,fun x H2 s2 hx es=>?_,fun H2 s2 es=>?_⟩
  ·rw[es]at k
   refine cD (b:=false) (Ev.cG (Ij (v:= .int (x:Nat)) (aj rfl))) (fun e=>by cases e) (fun _=>?_);refine bQ (cu (bx (aA (aj (v:= .int (x:Nat)) rfl) bA) ⟨x,rfl,fun H3 D s3 nD hD=>⟨D,_,rfl,hD,?_,?_⟩⟩))
   ·have:=Kd.jz 8 x
    omega
   ·rw[Kd.qb I.nk hx]
    exact k.less ((s1.trans s2).trans s3)
  ·rw[es]at k
   refine cD (b:=true) (Ev.cG (Ij (v:= .non) (aj rfl))) (fun _=>?_) (fun e=>by cases e);exact Em aV (k.less (s1.trans s2))
def Vz (A:Ad):Sp:=fun vs H Q _=>∃(a:Addr) (z:lM) (h:Kh.House) (cb:List (Nat×List Nat)) (hg:List (Nat×Nat)) (m r t:Nat),vs=[.ref a, .int m, .int r, .int t]∧Av A H a z h cb hg m∧r<h.rooms∧Gives H Q (iV (HouseNeutral.told (if h.leads (bO h m) r t=false then KhRooms.says (-3)else KhRooms.tells (h.needed (bO h m) r t))))
theorem VB (T:Txt K mg A):bK P w K mg base cV 5 A.vf A.oU ["house","bunch","start","goal"] (Vz A):=by
 refine T.m9.fn.ok GD (fun vs H Q E h=>?_) (fun cdv Ar outer s H vs Q E hr h=>?_)
 ·obtain⟨a,z,h,cb,hg,m,r,t,rfl,_⟩:=h
  rfl
 ·obtain⟨a,z,h,cb,hg,m,r,t,rfl,⟨X,I,hm⟩,hr0,k⟩:=h
  refine⟨_,(au (bJ (i:=4) GD.nd rfl (by first|exact Or.inl rfl|exact Or.inr rfl) (aH (cP T) (hr.mono (by decide)) rfl T.aX.mg T.aX.fn.kp (cT T) .nil aP (ak (pv 0) ao)))
   (au (bU (gq (dj (aH (iZ T) (hr.mono (by decide)) rfl T.bW.mg T.bW.fn.kp (jR T) .nil aP (ak (pv 4) (ak (pv 1) (ak (pv 2) (ak (pv 3) ao)))))))
    (aB (aL (bL (ak (aY (v:= .int (-3)) rfl T.Bq ⟨_,rfl⟩) ao))))
    bC)
   (aB (aL (aH (lO T) (hr.mono (by decide)) rfl T.cW.mg T.cW.fn.kp (oY T) .nil aP (ak (aH (Rt T) (hr.mono (by decide)) rfl T.lA.mg T.lA.fn.kp (U4 T) .nil aP (ak (pv 4) (ak (pv 1) (ak (pv 2) (ak (pv 3) ao))))) ao)))))),?_⟩
  refine dF (bx (aA (aj rfl) bA) ⟨a,z,h,cb,hg,rfl,X,I,fun H1 b s1 nb hb=>?_⟩);have G:=Ek I hb;refine Og (b:= !(h.leads (bO h m) r t)) (Tg.not (Eg.cJ fun Q q=>bx (aA (aj rfl) (aA (aj rfl) (aA (aj rfl) (aA (aj rfl) bA)))) ⟨b,m,r,t,h,_,rfl,G,hr0,q⟩)) (fun e H2 s2=>?_) (fun e H2 s2=>?_)
  ·rw[Bool.not_eq_true']at e
   rw[if_pos e]at k;exact Em aV (k.less (s1.trans s2))
  ·rw[Bool.not_eq_false']at e
   rw[if_neg (by rw[e];simp)]at k;refine bQ (cu (bx (aA (aj rfl) (aA (aj rfl) (aA (aj rfl) (aA (aj rfl) bA)))) ⟨b,m,r,t,h,_,rfl,G.same s2,hr0,I.nk,hm,fun H3 D s3 nD hD=>⟨D,_,rfl,hD,?_,k.less ((s1.trans s2).trans s3)⟩⟩));have h1:(h.needed (bO h m) r t).length≤(bO h m).length:=List.length_filter_le _ _;have h2:(bO h m).length≤h.keys.length:=Kd.jz h.keys.length m;have:=I.nk;omega
def Ru (A:Ad):Sp:=fun vs H Q _=>∃(a:Addr) (z:lM) (h:Kh.House) (cb:List (Nat×List Nat)) (hg:List (Nat×Nat)) (m r t:Nat),vs=[.ref a, .int m, .int r, .int t]∧Av A H a z h cb hg m∧r<h.rooms∧Gives H Q (iV (HouseNeutral.told (if h.leads (bO h m) r t=false then KhRooms.says (-3)else KhRooms.tells (h.through (bO h m) r t))))
theorem Rv (T:Txt K mg A):bK P w K mg base cV 5 A.tW A.mR ["house","bunch","start","goal"] (Ru A):=by
 refine T.lE.fn.ok EY (fun vs H Q E h=>?_) (fun cdv Ar outer s H vs Q E hr h=>?_)
 ·obtain⟨a,z,h,cb,hg,m,r,t,rfl,_⟩:=h
  rfl
 ·obtain⟨a,z,h,cb,hg,m,r,t,rfl,⟨X,I,hm⟩,hr0,k⟩:=h
  refine⟨_,(au (bJ (i:=4) EY.nd rfl (by first|exact Or.inl rfl|exact Or.inr rfl) (aH (cP T) (hr.mono (by decide)) rfl T.aX.mg T.aX.fn.kp (cT T) .nil aP (ak (pv 0) ao)))
   (au (bU (gq (dj (aH (iZ T) (hr.mono (by decide)) rfl T.bW.mg T.bW.fn.kp (jR T) .nil aP (ak (pv 4) (ak (pv 1) (ak (pv 2) (ak (pv 3) ao)))))))
    (aB (aL (bL (ak (aY (v:= .int (-3)) rfl T.Bq ⟨_,rfl⟩) ao))))
    bC)
   (aB (aL (aH (lO T) (hr.mono (by decide)) rfl T.cW.mg T.cW.fn.kp (oY T) .nil aP (ak (aH (BL T) (hr.mono (by decide)) rfl T.d7.mg T.d7.fn.kp (Ec T) .nil aP (ak (pv 4) (ak (pv 1) (ak (pv 2) (ak (pv 3) ao))))) ao)))))),?_⟩
  refine dF (bx (aA (aj rfl) bA) ⟨a,z,h,cb,hg,rfl,X,I,fun H1 b s1 nb hb=>?_⟩);have G:=Ek I hb;refine Og (b:= !(h.leads (bO h m) r t)) (Tg.not (Eg.cJ fun Q q=>bx (aA (aj rfl) (aA (aj rfl) (aA (aj rfl) (aA (aj rfl) bA)))) ⟨b,m,r,t,h,_,rfl,G,hr0,q⟩)) (fun e H2 s2=>?_) (fun e H2 s2=>?_)
  ·rw[Bool.not_eq_true']at e
   rw[if_pos e]at k;exact Em aV (k.less (s1.trans s2))
  ·rw[Bool.not_eq_false']at e
   rw[if_neg (by rw[e];simp)]at k;refine bQ (cu (bx (aA (aj rfl) (aA (aj rfl) (aA (aj rfl) (aA (aj rfl) bA)))) ⟨b,m,r,t,h,_,rfl,G.same s2,hr0,e,fun H3 D s3 nD hD=>⟨D,_,rfl,hD,?_,k.less ((s1.trans s2).trans s3)⟩⟩));have h1:(h.through (bO h m) r t).length≤2*h.doors.length:=Kd.bB _ _;have:=I.nd;omega
def Xw (A:Ad):Sp:=fun vs H Q _=>∃(a:Addr) (z:lM) (h:Kh.House) (cb:List (Nat×List Nat)) (hg:List (Nat×Nat)) (m r:Nat),vs=[.ref a, .int m, .int r]∧Av A H a z h cb hg m∧r<h.rooms∧Gives H Q (iV (HouseNeutral.told (KhRooms.tells (h.traps (bO h m) r))))
theorem Xx (T:Txt K mg A):bK P w K mg base cV 6 A.wY A.qC ["house","bunch","start"] (Xw A):=by
 refine T.pL.fn.ok WW (fun vs H Q E h=>?_) (fun cdv Ar outer s H vs Q E hr h=>?_)
 ·obtain⟨a,z,h,cb,hg,m,r,rfl,_⟩:=h
  rfl
 ·obtain⟨a,z,h,cb,hg,m,r,rfl,⟨X,I,hm⟩,hr0,k⟩:=h
  refine⟨_,(aB (aL (aH (lO T) (hr.mono (by decide)) rfl T.cW.mg T.cW.fn.kp (oY T) .nil aP (ak (aH (Vw T) (hr.mono (by decide)) rfl T.m7.mg T.m7.fn.kp (W9 T) .nil aP (ak (aH (cP T) (hr.mono (by decide)) rfl T.aX.mg T.aX.fn.kp (cT T) .nil aP (ak (pv 0) ao)) (ak (pv 1) (ak (pv 2) ao)))) ao)))),?_⟩;refine bQ (cu (cu (bx (aA (aj rfl) bA) ⟨a,z,h,cb,hg,rfl,X,I,fun H1 b s1 nb hb=>?_⟩)));refine aA (aj rfl) (aA (aj rfl) bA) _ ⟨b,m,r,h,_,rfl,Ek I hb,hr0,fun H2 D s2 nD hD=>⟨D,_,rfl,hD,?_,k.less (s1.trans s2)⟩⟩;have h1:(h.traps (bO h m) r).length≤2*h.doors.length:=Kd.bB _ _;have:=I.nd;omega
def aaS (A:Ad):Sp:=fun vs H Q _=>∃(a:Addr) (z:lM) (h:Kh.House) (cb:List (Nat×List Nat)) (hg:List (Nat×Nat)) (m t:Nat),vs=[.ref a, .int m, .int t]∧Av A H a z h cb hg m∧Gives H Q (iV (HouseNeutral.told (KhRooms.tells (h.shutOff (bO h m) t))))
theorem aaT (T:Txt K mg A):bK P w K mg base cV 5 A.zB A.tX ["house","bunch","goal"] (aaS A):=by
 refine T.rQ.fn.ok aaj (fun vs H Q E h=>?_) (fun cdv Ar outer s H vs Q E hr h=>?_)
 ·obtain⟨a,z,h,cb,hg,m,t,rfl,_⟩:=h
  rfl
 ·obtain⟨a,z,h,cb,hg,m,t,rfl,⟨X,I,hm⟩,k⟩:=h
  refine⟨_,(aB (aL (aH (lO T) (hr.mono (by decide)) rfl T.cW.mg T.cW.fn.kp (oY T) .nil aP (ak (aH (Fl T) (hr.mono (by decide)) rfl T.fu.mg T.fu.fn.kp (G5 T) .nil aP (ak (aH (cP T) (hr.mono (by decide)) rfl T.aX.mg T.aX.fn.kp (cT T) .nil aP (ak (pv 0) ao)) (ak (pv 1) (ak (pv 2) ao)))) ao)))),?_⟩;refine bQ (cu (cu (bx (aA (aj rfl) bA) ⟨a,z,h,cb,hg,rfl,X,I,fun H1 b s1 nb hb=>?_⟩)));refine aA (aj rfl) (aA (aj rfl) bA) _ ⟨b,m,t,h,_,rfl,Ek I hb,fun H2 D s2 nD hD=>⟨D,_,rfl,hD,?_,k.less (s1.trans s2)⟩⟩;have h1:(h.shutOff (bO h m) t).length≤h.rooms:=Kd.bB _ _;have:=I.rooms;omega
end
end Kq
end
section
namespace Kq
open PySem PySem.Spec PyProof.Rows L2 Hk Hs
theorem Zd (n:Nat) (l:List Nat):iV (HouseNeutral.told ⟨(n:Int),l⟩)=V.int (n:Int)::nV l:=by
 show V.int (n:Int)::((l.map fun(n:Nat)=>(n:Int)).map V.int)=_;rw[List.map_map];rfl
theorem kinds_of {l:List Nat}{R:Nat}(hl:∀x∈l,x<R){d:List Int}(nd:d.Nodup) (hm:∀k,k∈d↔k∈Kd.iz l):d.length=KhRooms.kinds l:=by
 rw[Kd.afF hl];have p:d.Perm (Kd.iz ((List.range R).filter fun x=>l.contains x)):=by
  refine(List.perm_ext_iff_of_nodup nd ?_).mpr fun k=>?_
  ·show(List.map _ _).Pairwise (·≠·)
   rw[List.pairwise_map];exact(Kd.iu (Kd.dB _ (Kd.eE _))).imp fun h e=>h (by omega)
  ·rw[hm]
   constructor
   ·intro m
    obtain⟨n,mn,e⟩:=List.mem_map.mp m;exact List.mem_map.mpr ⟨n,List.mem_filter.mpr ⟨List.mem_range.mpr (hl n mn),List.contains_iff_mem.mpr mn⟩,e⟩
   ·intro m
    obtain⟨n,mn,e⟩:=List.mem_map.mp m;exact List.mem_map.mpr ⟨n,List.contains_iff_mem.mp (List.mem_filter.mp mn).2,e⟩
 rw[p.length_eq];show(List.map _ _).length=_;rw[List.length_map]
section
variable {P:Program}{w:World}{K:PySem.W.Frag}{mg:Str→Option Value}{base:Heap}{A:Ad}
def Xy (A:Ad):Sp:=fun vs H Q _=>∃(a:Addr) (z:lM) (h:Kh.House) (cb:List (Nat×List Nat)) (hg:List (Nat×Nat)) (m:Nat),vs=[.ref a, .int m]∧Av A H a z h cb hg m∧Gives H Q (iV (HouseNeutral.told ⟨(KhRooms.kinds ((List.range h.rooms).map (h.part (bO h m))):Int),(List.range h.rooms).map (h.part (bO h m))⟩))
theorem Xz (T:Txt K mg A):bK P w K mg base cV 5 A.wZ A.qD ["house","bunch"] (Xy A):=by
 refine T.pN.fn.ok Ji (fun vs H Q E h=>?_) (fun cdv Ar outer s H vs Q E hr h=>?_)
 ·obtain⟨a,z,h,cb,hg,m,rfl,_⟩:=h
  rfl
 ·obtain⟨a,z,h,cb,hg,m,rfl,⟨X,I,hm⟩,k⟩:=h
  refine⟨_,(au (bJ (i:=2) Ji.nd rfl (by first|exact Or.inl rfl|exact Or.inr rfl) (aH (Aq T) (hr.mono (by decide)) rfl T.dI.mg T.dI.fn.kp (Bt T) .nil aP (ak (aH (cP T) (hr.mono (by decide)) rfl T.aX.mg T.aX.fn.kp (cT T) .nil aP (ak (pv 0) ao)) (ak (pv 1) ao))))
   (aB (aL (dw KZ (bL (ak (bH aae (by rfl) T.fK dG (ak (Jt (LQ rfl) (by rfl) T.ahA ae7 (ak (pv 2) ao)) ao)) ao)) (pv 2))))),?_⟩
  have r24:=I.rooms;refine dF (pQ (cu (bx (aA (aj rfl) bA) ⟨a,z,h,cb,hg,rfl,X,I,fun H1 b s1 nb hb=>?_⟩)));refine aA (aj rfl) bA _ ⟨b,m,h,_,rfl,Ek I hb,fun H2 D s2 nD hD=>?_⟩;rw[Zd]at k;have hlen:((List.range h.rooms).map (h.part (bO h m))).length=h.rooms:=by rw[List.length_map,List.length_range]
  have hlt:∀x∈(List.range h.rooms).map (h.part (bO h m)),x<h.rooms:=fun x mx=>by
   obtain⟨r,mr,e⟩:=List.mem_map.mp mx;rw[←e];rw[List.mem_range]at mr;unfold Kh.House.part;cases q:(List.range h.rooms).find? fun(t:Nat)=>h.leads (bO h m) r t&&h.leads (bO h m) t r with
   |none=>exact mr
   |some x=>exact(Kd.vq q).1
  generalize(List.range h.rooms).map (h.part (bO h m))=l at hD k hlen hlt;refine bQ ?_;refine aj (v:= .ref D) rfl _ ⟨D,Kd.iz l,rfl,by rw[uh];exact aU hD,by show(List.map _ _).length≤2000;rw[List.length_map];omega,fun d p nd md np=>?_⟩;refine⟨p,d,rfl,aq,⟨by show 1≤sizeLine;decide,fun p2 np2=>?_⟩⟩;have s3:Same H2 (upd H2 p (Us P w p d)):=aZ np;have s4:=s3.trans (aZ (o:= .lst [.int (d.length:Nat)]) np2);refine aj (v:= .ref D) rfl _ ⟨p2,D,_,_,rfl,rfl,aq,s4 _ _ hD,?_,fun p3 np3=>?_⟩
  ·rw[bR]
   exact Nat.le_of_lt (cB (by show 1+l.length≤30000;omega))
  ·refine k _ p3 ((s1.trans s2).trans (s4.trans (aZ np3))) ((s1.trans s2).free (s4.free np3)) ?_
   rw[aq,kinds_of hlt nd md];rfl
end
end Kq
end
section
namespace Kq
open PySem PySem.Spec PyProof.Rows L2 Hk Hs
theorem aex (a b:Nat):Builtin.bitOr (a:Int) (b:Int)=((a|||b:Nat):Int):=by
 have e:Builtin.bitXor (a:Int) (b:Int)=Builtin.bitOr (a:Int) (b:Int)-Builtin.bitAnd (a:Int) (b:Int):=rfl;rw[QH,zH]at e;have h1:∀(x y:Nat),(x ^^^ y)+(x&&&y)=x|||y:=by
  intro x
  induction x using Nat.strongRecOn with
  |_ x ih=>
   intro y;by_cases h:x=0
   ·subst h;simp
   ·have i:=ih (x/2) (by omega) (y/2)
    have e1:(x ^^^ y)/2=x/2 ^^^ y/2:=Nat.xor_div_two;have e2:(x&&&y)/2=x/2&&&y/2:=Nat.and_div_two;have e5:(x|||y)/2=x/2|||y/2:=Nat.or_div_two;have e3:(x ^^^ y)%2=1↔¬(x%2=1↔y%2=1):=Nat.xor_mod_two_eq_one;have e4:(x&&&y)%2=1↔x%2=1∧y%2=1:=Nat.and_mod_two_eq_one;have e6:(x|||y)%2=1↔x%2=1∨y%2=1:=Nat.or_mod_two_eq_one;have b1:(x&&&y)%2=0∨(x&&&y)%2=1:=by omega
    have b2:(x ^^^ y)%2=0∨(x ^^^ y)%2=1:=by omega
    have b3:x%2=0∨x%2=1:=by omega
    have b4:y%2=0∨y%2=1:=by omega
    have b5:(x|||y)%2=0∨(x|||y)%2=1:=by omega
    rcases b1 with b1|b1<;>rcases b2 with b2|b2<;>rcases b3 with b3|b3<;>rcases b4 with b4|b4<;>rcases b5 with b5|b5<;>simp[b1,b2,b3,b4,b5]at e3 e4 e6<;>omega
 have:=h1 a b;omega
section
variable {K:PySem.W.Frag}{ta tb tc:TE}{σ:L2.St}{H:Hp}{D:Ends}{v:V}
theorem Sh {x y:Nat}(ha:Ev ta σ H (.int (x:Int))) (hb:Ev tb σ H (.int (y:Int))):Ev (rz (za fun i j=> .int (Builtin.bitOr i j)) ta tb) σ H (.int ((x|||y:Nat):Int)):=
 fun Q q=>ha _ (hb _ ⟨_,_,rfl,rfl,by
  show Q (V.int (Builtin.bitOr (x:Int) (y:Int))) H;rw[aex];exact q⟩)
theorem ahV {p:Addr}{xs:List V}{j:Nat}(hv:Ev tc σ H v) (ho:Ev ta σ H (.ref p)) (hi:Ev tb σ H (.int (j:Int))) (hp:H p=some (.lst xs)) (hj:j<xs.length) (k:D.nx σ (upd H p (.lst (xs.set j v)))):Qi tc (agB ta tb adH) D σ H:=
 hv _ (ho _ (hi _ ⟨p,xs,_,j,rfl,rfl,hp,ae9 hj,k⟩))
end
section
variable {d:Addr}{o:Obj}{kvs:List (L2.Key×V)}{g:TG}{tb:TS}{D:Ends}{σ:L2.St}{H:Hp}
theorem aey (Pv:Nat→L2.St→Hp→Prop) (h0:Pv 0 σ H) (hl:∀i σ H,i≤kvs.length→Pv i σ H→H d=some (.cM o (.dK kvs)))
  (hs:∀i k v T σ H,kvs[i]?=some (k,v)→Pv i σ H→H T=none→g (.ref T) σ (upd H T (.tup [kV k,v])) fun σ2 H2=>tb {D with nx:=Pv (i+1),ct:=Pv (i+1),bk:=D.nx} σ2 H2) (hd:∀σ H,Pv kvs.length σ H→D.nx σ H):
  ∃W:Nat→Nat→L2.St→Hp→Prop,(∃m,W 0 m σ H)∧∀i m σ H,W i m σ H→
   ((Iti d o kvs).stop i H∧D.nx σ H)∨((Iti d o kvs).go i H∧∃N:L2.St→Hp→Prop,(∀σ' H',N σ' H'→∃m',m'<m∧W (i+1) m' σ' H')∧∀x H',(Iti d o kvs).Zi i H x H'→g x σ H' fun σ2 H2=>tb {D with nx:=N,ct:=N,bk:=D.nx} σ2 H2):=by
 refine⟨fun i m σ H=>m=kvs.length-i∧i≤kvs.length∧Pv i σ H,⟨kvs.length,by simp,Nat.zero_le _,h0⟩,?_⟩;rintro i m σ H ⟨rfl,hi,p⟩;have q:=hl i σ H hi p;by_cases hlt:i<kvs.length
 ·refine .inr ⟨⟨q,hlt⟩,Pv (i+1),fun σ' H' p'=>⟨kvs.length-(i+1),by omega,rfl,hlt,p'⟩,fun x H' y=>?_⟩
  obtain⟨T,k,v,hk,ex,hT,e⟩:=y;subst e ex;exact hs i k v T σ _ hk p hT
 ·have e:i=kvs.length:=by omega
  subst e;exact .inl ⟨⟨q,Nat.le_refl _⟩,hd σ H p⟩
end
theorem ahW {td:TE}{d:Addr}{o:Obj}{kvs:List (L2.Key×V)}{g:TG}{tb:TS}{D:Ends}{σ:L2.St}{H:Hp}(h:Ev td σ H (.ref d)) (hd:H d=some (.cM o (.dK kvs))) (k:∃W:Nat→Nat→L2.St→Hp→Prop,(∃m,W 0 m σ H)∧∀i m σ H,W i m σ H→
   ((Iti d o kvs).stop i H∧D.nx σ H)∨((Iti d o kvs).go i H∧∃N:L2.St→Hp→Prop,(∀σ' H',N σ' H'→∃m',m'<m∧W (i+1) m' σ' H')∧∀x H',(Iti d o kvs).Zi i H x H'→g x σ H' fun σ2 H2=>tb {D with nx:=N,ct:=N,bk:=D.nx} σ2 H2)):aeQ (ae0 td) g tb D σ H:=h _ ⟨d,o,_,rfl,hd,k⟩
section
variable {P:Program}{w:World}{K:PySem.W.Frag}{mg:Str→Option Value}{base:Heap}{A:Ad}
def aaU (h:Kh.House) (hg:List (Nat×Nat)):List Nat:=(List.range h.rooms).map (Kd.cF hg)
def PL (A:Ad):Sp:=fun vs H Q _=>∃(a:Addr) (z:lM) (h:Kh.House) (cb:List (Nat×List Nat)) (hg:List (Nat×Nat)),vs=[.ref a]∧bh A H a z h cb hg∧Kd.bV h cb hg∧Gives H Q (nV (aaU h hg))
theorem PN (T:Txt K mg A):bK P w K mg base cV 1 A.qT A.kY ["house"] (PL A):=by
 refine T.jG.fn.ok pA (fun vs H Q E h=>?_) (fun cdv Ar outer s H vs Q E hr h=>?_)
 ·obtain⟨a,z,h,cb,hg,rfl,_⟩:=h
  rfl
 ·obtain⟨a,z,h,cb,hg,rfl,X,I,k⟩:=h
  have cl:=T.d9.cl;refine⟨_,(au (Hx (i:=1) rfl pA.nd rfl rfl rfl (lQ rfl T.ud (ak (aN (pv 0) rfl) ao)) (gP (N:=["house","hung","room","key"]) (sc:=aF qK) (own:=[("room",2)]) rfl (by decide+kernel)) (fun _ _ _ _ _=>(cO (i:=2) pA.nd rfl (by first|exact Or.inl rfl|exact Or.inr rfl))) (fun _ _ _ _ _=>nZ) (fun _ _ _ _ _=>aO))
   (au (Tp (rU PassesOwn.never rfl (afB (aN (pv 0) rfl)) (Lz K rfl (i:=3) (j:=2) rfl pA.nd rfl rfl (by first|exact Or.inl rfl|exact Or.inr rfl) (by first|exact Or.inl rfl|exact Or.inr rfl) (by first|exact Or.inl rfl|exact Or.inr rfl) (by first|exact Or.inl rfl|exact Or.inr rfl))
    (aB (aeP (dw Zo (bG bw (pv 1) (pv 2) (fun _ _=>rfl)) (dw Zm aO (pv 3))) (aeO (pv 1) (pv 2) set_list)))))
   (aB (aL (pv 1))))),?_⟩
  have r24:=I.rooms;refine dF (afc (n:=h.rooms) (aW (aj rfl) X.ins cl T.oX rfl) (by omega) fun L nL=>Bg (n:=h.rooms) (fun i H'=>Acc H L (nV ((List.range i).map (Kd.cF []))) H') (Acc.start nL) (fun i H' hi acc=>?_) fun H1 acc=>?_)
  ·refine⟨rfl,_,acc.lst,cB (by rw[bR,List.length_map,List.length_range];omega),?_⟩
   rw[List.range_succ,List.map_append,vh];exact acc.push (same_refl _) nL _
  ·have s1:=acc.same
   have hL1:=acc.lst;have X1:=X.same s1
   -- for key,room in house.hanging.items()
   refine qG ⟨z.aG,_,X1.hang,trivial,fun od=>?_⟩;have LG:L≠z.aG:=eX hL1 X1.hang fun e=>nomatch e
   have hG2:upd H1 z.aG (.cM od (.dK (uo hg))) z.aG=some (.cM od (.dK (uo hg))):=aq;have s2:∀x o,H x=some o→x≠z.aG→upd H1 z.aG (.cM od (.dK (uo hg))) x=some o:=fun x o e n=>by rw[aJ n];exact s1 _ _ e
   have hL2:upd H1 z.aG (.cM od (.dK (uo hg))) L=some (.lst (nV ((List.range h.rooms).map (Kd.cF [])))):=by rw[aJ LG];exact hL1
   have hi2:upd H1 z.aG (.cM od (.dK (uo hg))) a=some (.ins A.cR z.dx (Ov (.ref z.aM) (.int h.rooms) (.ref z.aK) (.ref z.aC) (.ref z.aD) (.ref z.aS) (.ref z.aG))):=by
    rw[aJ (eX X1.ins X1.hang fun e=>nomatch e)];exact X1.ins
   generalize upd H1 z.aG (.cM od (.dK (uo hg)))=H2 at hG2 s2 hL2 hi2⊢;refine ahW (aW (aj rfl) hi2 cl T.gj rfl) hG2 ?_;refine aey (fun i σ H'=>∃v2 v3,σ=[some (.ref a),some (.ref L),v2,v3]∧(∀x o,H2 x=some o→x≠L→H' x=some o)∧H' L=some (.lst (nV ((List.range h.rooms).map (Kd.cF (hg.take i)))))) ?_ ?_ ?_ ?_
   ·exact⟨_,_,rfl,fun x o e _=>e,hL2⟩
   ·rintro i σ H' hi ⟨v2,v3,rfl,kp,M4⟩
    exact kp _ _ hG2 LG.symm
   ·rintro i ky v Tt σ H' hi ⟨v2,v3,rfl,kp,M4⟩ nT
    unfold uo at hi;rw[List.getElem?_map]at hi;obtain⟨p,hp,ep⟩:=Option.map_eq_some_iff.mp hi;cases ep;obtain⟨p1,p2⟩:=I.Cy p (List.mem_of_getElem? hp);have M5:upd H' Tt (.tup [.int (p.1:Int), .int (p.2:Int)]) L=some (.lst (nV ((List.range h.rooms).map (Kd.cF (hg.take i))))):=by
     rw[aJ (aQ M4 nT)];exact M4
    refine⟨Tt,_,rfl, .inl (.inl aq),rfl,_,_,rfl,_,_,rfl,rfl,?_⟩;have hix:(nV ((List.range h.rooms).map (Kd.cF (hg.take i))))[p.2]?=some (.int (Kd.cF (hg.take i) p.2:Nat)):=by
     rw[List.getElem?_map,List.getElem?_map,List.getElem?_range p2];rfl
    have nk:=I.nk;refine ahV (j:=p.2) (Sh (bI (j:=p.2) (aj rfl) (aj rfl) (aU M5) hix) (aaN (k:=p.1) aV (aj rfl) (by omega))) (aj (v:= .ref L) rfl) (aj rfl) M5 (by rw[bR,List.length_map,List.length_range];exact p2) ?_;refine⟨_,_,rfl,fun x o e n=>?_,?_⟩
    ·have:=kp x o e n
     rw[aJ n,aJ (aQ this nT)];exact this
    ·rw[aq]
     congr 2
     apply List.ext_getElem?;intro r;rw[List.getElem?_set,List.getElem?_map,List.getElem?_map,List.getElem?_map,List.getElem?_map,bR,List.length_map,List.length_range];by_cases cr:r<h.rooms
     ·rw[List.getElem?_range cr]
      show _=some (V.int ((Kd.cF (hg.take (i+1)) r:Nat):Int));rw[Kd.take_snoc hp,Kd.ab4];by_cases c:p.2=r
      ·rw[if_pos c,if_pos p2,if_pos c,c]
      ·rw[if_neg c,if_neg c]
       rfl
     ·rw[if_neg (by omega),List.getElem?_eq_none (by rw[List.length_range];omega)]
      rfl
   ·rintro σ H' ⟨v2,v3,rfl,kp,M4⟩
    rw[show(uo hg).length=hg.length from List.length_map _,List.take_length]at M4;refine⟨kp _ _ hG2 LG.symm,?_⟩;refine jx (v:= .ref L) (aj rfl) (k _ L (fun x o e=>?_) nL (by rw[aJ LG];exact M4));by_cases c:x=z.aG
    ·subst c
     rw[aq];rw[X.hang]at e;exact e
    ·rw[aJ c]
     exact kp _ _ (s2 x o e c) (aQ e nL)
end
end Kq
end
section
namespace Kq
open PySem PySem.Spec PyProof.Rows L2 Hk Hs
def sK (y:Kd.Sb):List L2.Key:=[Sum.inl (y.1:Int),Sum.inl (y.2:Int)]
def Aw (ys:List Kd.Sb):List (List L2.Key×V):=ys.map fun y=>(sK y,V.bl true)
def yX (H:Hp) (ts:List Addr) (ys:List Kd.Sb):Prop:=ts.length=ys.length∧∀(i:Nat) t y,ts[i]?=some t→ys[i]?=some y→H t=some (.tup [.int (y.1:Nat), .int (y.2:Nat)])
theorem yX.same {H H':Hp}{ts:List Addr}{ys:List Kd.Sb}(h:yX H ts ys) (s:Same H H'):yX H' ts ys:=⟨h.1,fun i t y e1 e2=>s _ _ (h.2 i t y e1 e2)⟩
theorem ai4 {x y:Kd.Sb}(e:sK x=sK y):x=y:=by
 unfold sK at e;injection e with e1 e2
 injection e2 with e3 _
 have h1:=Sum.inl.inj e1;have h2:=Sum.inl.inj e3;exact Prod.ext (by omega) (by omega)
theorem aaV:∀(ys:List Kd.Sb) (x:Kd.Sb),(mF (Aw ys) (sK x)).isSome=decide (x∈ys)
 |[],x=>by simp[Aw,mF]
 |y::ys,x=>by
  show(mF ((sK y,V.bl true)::Aw ys) (sK x)).isSome=_;by_cases c:y=x
  ·subst c
   rw[xH rfl];simp
  ·rw[uw (fun e=>c (ai4 e)),aaV ys x]
   simp[Ne.symm c]
theorem ahX {ys:List Kd.Sb}{x:Kd.Sb}(h:x∉ys):putK (Aw ys) (sK x) (.bl true)=Aw (ys++[x]):=by
 unfold putK;rw[Az,aaV,decide_eq_false h];show Aw ys++[(sK x,V.bl true)]=_;unfold Aw;rw[List.map_append];rfl
section
variable {P:Program}{w:World}{K:PySem.W.Frag}{mg:Str→Option Value}{base:Heap}{A:Ad}
def Rw (A:Ad):Sp:=fun vs H Q _=>∃(b lh:Addr) (m r:Nat) (h:Kh.House) (pb:List (List Kd.Pg)) (cb:List (Nat×List Nat)) (hg:List (Nat×Nat)),vs=[.ref b, .ref lh, .int m, .int r]∧Gr A H b h pb∧Kd.bV h cb hg∧H lh=some (.lst (nV (aaU h hg)))∧m<2^h.keys.length∧r<h.rooms∧
 ∀H' l ts ys,Same H H'→H l=none→H' l=some (.lst (rV ts))→yX H' ts ys→Kd.Uk h hg (Kd.startB hg m r) ys []→Q (.ref l) H'
theorem Ze {h:Kh.House}{hg:List (Nat×Nat)}{r:Nat}(hr:r<h.rooms):(nV (aaU h hg))[r]?=some (.int (Kd.cF hg r:Nat)):=by
 unfold aaU;rw[List.getElem?_map,List.getElem?_map,List.getElem?_range hr];rfl
theorem agi {ta td:TE}{σ:L2.St}{H:Hp}{d t:Addr}{ys:List Kd.Sb}{x:Kd.Sb}(ha:Ev ta σ H (.ref t)) (hb:Ev td σ H (.ref d)) (hd:H d=some (.dT (Aw ys))) (ht:H t=some (.tup [.int (x.1:Nat), .int (x.2:Nat)])):Ev (K7 ta td) σ H (.bl (!decide (x∈ys))):=
 fun Q q=>ha _ (hb _ ⟨d,_,rfl,pZ.t (k:=sK x) hd ht,by rw[aaV];exact q⟩)
theorem Rx (T:Txt K mg A):bK P w K mg base cV 2 A.tV A.mQ ["by_room","hung","bunch","start"] (Rw A):=by
 refine T.lB.fn.ok fP (fun vs H Q E h=>?_) (fun cdv Ar outer s H vs Q E hr h=>?_)
 ·obtain⟨b,lh,m,r,h,pb,cb,hg,rfl,_⟩:=h
  rfl
 ·obtain⟨b,lh,m,r,h,pb,cb,hg,rfl,G,I,hlh,hm,hr0,k⟩:=h
  have c:=T.iG.cl;have hu:=FQ hr;refine⟨_,(au (bJ (i:=4) fP.nd rfl (by first|exact Or.inl rfl|exact Or.inr rfl) (Ca (ak (pv 3) (ak (dw Zo (pv 2) (bG bw (pv 1) (pv 3) (fun _ _=>rfl))) ao))))
   (au (bJ (i:=5) fP.nd rfl (by first|exact Or.inl rfl|exact Or.inr rfl) (afQ hu (Yu (pv 4) Jq abL) rfl rfl (by simp) (by decide)))
   (au (bJ (i:=6) fP.nd rfl (by first|exact Or.inl rfl|exact Or.inr rfl) (bL (ak (pv 4) ao)))
   (au (Nz PassesOwn.never (bM adA (bH cA (by rfl) T.fK dG (ak (pv 6) ao)) aO (bD _))
    (au (bJ (i:=7) fP.nd rfl (by first|exact Or.inl rfl|exact Or.inr rfl) (ais PySem.F.plainAttrs_list PySem.F.slot_list_pop PySem.F.type_list_pop ait (pv 6)))
    (au (bJ (i:=8) fP.nd rfl (by first|exact Or.inl rfl|exact Or.inr rfl) (bG bw (pv 7) aO (fun _ _=>rfl)))
    (aB (rU PassesOwn.never rfl (iI (bG bw (pv 0) (bG bw (pv 7) aO (fun _ _=>rfl)) (fun _ _=>rfl))) (cO (i:=9) fP.nd rfl (by first|exact Or.inl rfl|exact Or.inr rfl))
     (au (bJ (i:=10) fP.nd rfl (by first|exact Or.inl rfl|exact Or.inr rfl) (Ca (ak (aN (pv 9) rfl) (ak (dw Zo (pv 8) (bG bw (pv 1) (aN (pv 9) rfl) (fun _ _=>rfl))) ao))))
     (aB (bU (PW.pt (Ht (Kz (Cq hu (pv 10) (pv 5))) (Ay (dj (aH (J8 T) (hr.mono (by decide)) rfl T.m6.mg T.m6.fn.kp (O1 T) .nil aP (ak (pv 8) (ak (pv 9) ao)))))))
      (au (Tn hu (pv 5) (pv 10) Jq rfl)
      (aB (iH (rA PySem.F.plainAttrs_list PySem.F.slot_list_append PySem.F.type_list_append fW (pv 6) (ak (pv 10) ao)))))
      bC))))))))
   (aB (aL (Jt (Ul rfl) (by rfl) T.aiU ahy (ak (pv 5) ao)))))))),?_⟩
  obtain⟨ls,b1,b2,b3⟩:=id G.pat;have R:=G.rep;have Xo:=G.Xo
  -- first=(start,bunch|hung[start])
  refine G8 (aj (v:= .int (r:Int)) rfl) (Sh (x:=m) (y:=Kd.cF hg r) (aj rfl) (bI (j:=r) (aj rfl) (aj rfl) (aU hlh) (Ze hr0))) fun t0 nt0=>?_
  have s1:Same H (upd H t0 (.tup [.int (r:Int), .int ((m|||Kd.cF hg r:Nat):Int)])):=aZ nt0;have ht1:upd H t0 (.tup [.int (r:Int), .int ((m|||Kd.cF hg r:Nat):Int)]) t0=some (.tup [.int ((Kd.startB hg m r).1:Nat), .int ((Kd.startB hg m r).2:Nat)]):=aq;generalize upd H t0 (.tup [.int (r:Int), .int ((m|||Kd.cF hg r:Nat):Int)])=H1 at s1 ht1⊢
  -- seen={first:True}
  refine dF fun d nd=>aj (v:= .ref t0) rfl _ ?_
  have t0d:t0≠d:=aQ ht1 nd;refine⟨aq,t0,sK (Kd.startB hg m r), .bl true,rfl,by rw[aJ t0d];exact ht1,?_⟩;rw[cU];have nd0:H d=none:=s1.free nd;have s2:Same H (upd H1 d (.dT [(sK (Kd.startB hg m r),V.bl true)])):=jd s1 nd0;have hd2:upd H1 d (.dT [(sK (Kd.startB hg m r),V.bl true)]) d=some (.dT (Aw [Kd.startB hg m r])):=aq;have ht2:upd H1 d (.dT [(sK (Kd.startB hg m r),V.bl true)]) t0=some (.tup [.int ((Kd.startB hg m r).1:Nat), .int ((Kd.startB hg m r).2:Nat)]):=by rw[aJ t0d];exact ht1
  generalize upd H1 d (.dT [(sK (Kd.startB hg m r),V.bl true)])=H2 at s2 hd2 ht2⊢
  -- waiting=[first]
  refine dF (aj (v:= .ref t0) rfl _ ⟨by show 1≤sizeLine;decide,fun wl nwl=>?_⟩);have s3:Same H2 (upd H2 wl (.lst [.ref t0])):=aZ nwl;have hw3:upd H2 wl (.lst [.ref t0]) wl=some (.lst (rV [t0])):=aq;generalize upd H2 wl (.lst [.ref t0])=H3 at s3 hw3⊢;have afd:H wl=none:=s2.free nwl;have s23:=s2.trans s3
  -- while len(waiting)>0
  refine Pk (ac0 (fun n σ H'=>∃(ys wt:List Kd.Sb) (ts:List Addr) (v7 v8 v9 v10:Option V),n=2*(400-ys.length)+wt.length∧n≤800∧σ=[some (.ref b),some (.ref lh),some (.int (m:Int)),some (.int (r:Int)),some (.ref t0),some (.ref d),some (.ref wl),v7,v8,v9,v10]∧Same H H'∧
   H' d=some (.dT (Aw ys))∧H' wl=some (.lst (rV ts))∧yX H' ts wt∧Kd.Uk h hg (Kd.startB hg m r) ys wt) (n0:=2*(400-1)+1) ?_ ?_)
  ·refine⟨[Kd.startB hg m r],[Kd.startB hg m r],[t0],none,none,none,none,rfl,by decide,rfl,s23,s3 _ _ hd2,hw3,⟨rfl,fun i t y e1 e2=>?_⟩,Kd.ad3 _⟩
   cases i with
   |zero=>
    simp at e1 e2;subst e1 e2;exact s3 _ _ ht2
   |succ i=>simp at e1
  ·rintro n σ H4 ⟨ys,wt,ts,v7,v8,v9,v10,rfl,n8,rfl,s4,wC,Pz,st4,D4⟩
   refine⟨decide (0<ts.length),fun Q q=>Ev.cG (aaF (y:=0) (dH (aj rfl) (aU Pz)) aV) _ (by rw[List.length_map];exact q),fun e=>?_,fun e=>?_⟩
   ·have e:=of_decide_eq_false e
    have:wt=[]:=List.length_eq_zero_iff.mp (by rw[←st4.1];omega);subst this;dsimp only;refine bQ ?_;refine aj (v:= .ref d) rfl _ ⟨d,Aw ys,rfl, .inl wC,fun p us np hl hts=>?_⟩;have sp:=aZ (H:=H4) (o:= .lst (us.map V.ref)) np;refine k _ p us ys (s4.trans sp) (s4.free np) aq ⟨by rw[hl];exact List.length_map _,fun i t y e1 e2=>sp _ _ ?_⟩ D4;have:=hts i (sK y) (.bl true) t (by unfold Aw;rw[List.getElem?_map,e2];rfl) e1;exact this
   ·have e:=of_decide_eq_true e
    rcases List.eq_nil_or_concat wt with e0|⟨wt',x,ex⟩
    ·rw[e0]at st4
     have h0:=st4.1;rw[List.length_nil]at h0;omega
    ·rw[List.concat_eq_append]at ex
     subst ex;rcases List.eq_nil_or_concat ts with e0|⟨ts',tx,et⟩
     ·rw[e0]at e
      simp at e
     ·rw[List.concat_eq_append]at et
      subst et;have hlen:ts'.length=wt'.length:=by
       have:=st4.1;simp at this;exact this
      have htx:H4 tx=some (.tup [.int (x.1:Nat), .int (x.2:Nat)]):=st4.2 ts'.length tx x (by simp) (by rw[hlen];simp);have sts:yX H4 ts' wt':=⟨hlen,fun i t y e1 e2=>st4.2 i t y (by rw[List.getElem?_append_left (List.getElem?_eq_some_iff.mp e1).1];exact e1) (by rw[List.getElem?_append_left (List.getElem?_eq_some_iff.mp e2).1];exact e2)⟩;have Dr:=D4.pop;have xr:=Kd.uz I (x:=Kd.startB hg m r) hr0 (Kd.Oe hm (Kd.xK (fun p mp=>(I.Cy p mp).1) _)) (D4.sound x (D4.wait x (by simp)));obtain⟨ps,hps⟩:∃ps,pb[x.1]?=some ps:=⟨pb[x.1]'(by rw[R.len];exact xr.1),List.getElem?_eq_getElem _⟩
      obtain⟨l,hl⟩:=j5 b2.symm hps;refine⟨fun σ' H'=>∃n',n'<2*(400-ys.length)+(wt'++[x]).length∧∃(ys wt:List Kd.Sb) (ts:List Addr) (v7 v8 v9 v10:Option V),n'=2*(400-ys.length)+wt.length∧n'≤800∧σ'=[some (.ref b),some (.ref lh),some (.int (m:Int)),some (.int (r:Int)),some (.ref t0),some (.ref d),some (.ref wl),v7,v8,v9,v10]∧Same H H'∧
       H' d=some (.dT (Aw ys))∧H' wl=some (.lst (rV ts))∧yX H' ts wt∧Kd.Uk h hg (Kd.startB hg m r) ys wt,fun σ' H' z=>z,?_⟩
      -- state=waiting.pop();having=state[1]
      refine dF (aj (v:= .ref wl) rfl _ ⟨.inl ⟨rfl,_,dR.of Pz⟩,wl,_, .ref tx,rfl,rfl,Pz,?_,?_⟩)
      ·rw[Ei]
       simp
      have ed:(rV (ts'++[tx])).dropLast=rV ts':=by
       rw[Ei];exact List.dropLast_concat
      rw[ed];have kw:Keep H4 wl (upd H4 wl (.lst (rV ts'))):=cC;have s5:Same H (upd H4 wl (.lst (rV ts'))):=jd s4 afd;have hd5:=kw _ _ wC (eX wC Pz fun z=>nomatch z);have ahY:=fC kw Pz (fun _ e=>nomatch e) htx;have ajD:yX (upd H4 wl (.lst (rV ts'))) ts' wt':=⟨sts.1,fun i t y e1 e2=>fC kw Pz (fun _ e=>nomatch e) (sts.2 i t y e1 e2)⟩;have hw5:upd H4 wl (.lst (rV ts')) wl=some (.lst (rV ts')):=aq;generalize upd H4 wl (.lst (rV ts'))=H5 at s5 hd5 ahY ajD hw5⊢;refine nj (jU (j:=1) (aj rfl) aV ahY rfl) ?_;obtain⟨xs,r1,r2,r3⟩:=b3 x.1 l ps hl hps;refine G9 (K:=K) (a:=l) (xs:=rV xs) (bI (j:=x.1) (v:= .ref l) (aj rfl) (jU (j:=0) (aj rfl) aV ahY rfl) (aU (s5 _ _ b1)) (by rw[List.getElem?_map,hl];rfl)) (aU (s5 _ _ r1)) (fun j σ H'=>∃(ys2 Ry:List Kd.Sb) (VD:List Addr) (v9 v10:Option V),2*(400-ys2.length)+Ry.length≤2*(400-ys.length)+wt'.length∧σ=[some (.ref b),some (.ref lh),some (.int (m:Int)),some (.int (r:Int)),some (.ref t0),some (.ref d),some (.ref wl),some (.ref tx),some (.int (x.2:Nat)),v9,v10]∧Same H H'∧
       H' d=some (.dT (Aw ys2))∧H' wl=some (.lst (rV VD))∧yX H' VD Ry∧Kd.uX h hg (Kd.startB hg m r) x (ps.take j) ys2 Ry) ?_ ?_ ?_ ?_
      ·exact⟨ys,wt',ts',v9,v10,Nat.le_refl _,rfl,s5,hd5,hw5,ajD,Dr⟩
      ·rintro j σ H' hj ⟨ys2,Ry,VD,v9,v10,me,rfl,s6,hd6,hw6,QJ,D6⟩
       exact aU (s6 _ _ r1)
      ·rintro j y σ H' hj ⟨ys2,Ry,VD,v9,v10,me,rfl,s6,hd6,hw6,QJ,D6⟩
       obtain⟨xa,hxa,rfl⟩:=vm hj;obtain⟨p,hp⟩:=j5 r2 hxa;obtain⟨dx,hx⟩:=(r3 j xa p hxa hp).same s6;have mp:=List.mem_of_getElem? hp;obtain⟨g1,g2,g3,g4⟩:=R.row _ ps hps p mp;have hbl:p.behind<h.rooms:=by rw[←g3];exact Kd.rB G.doors g1
       have et:ps.take (j+1)=ps.take j++[p]:=Kd.take_snoc hp
       -- behind=(passage.behind,having|hung[passage.behind])
       refine G8 (aW (aj rfl) hx c T.fJ rfl) (Sh (x:=x.2) (y:=Kd.cF hg p.behind) (aj rfl) (bI (j:=p.behind) (aj rfl) (aW (aj rfl) hx c T.fJ rfl) (aU (s6 _ _ hlh)) (Ze hbl))) fun t1 nt1=>?_
       have s7:Same H' (upd H' t1 (.tup [.int (p.behind:Nat), .int ((x.2|||Kd.cF hg p.behind:Nat):Int)])):=aZ nt1;have ht7:upd H' t1 (.tup [.int (p.behind:Nat), .int ((x.2|||Kd.cF hg p.behind:Nat):Int)]) t1=some (.tup [.int (((p.behind,x.2|||Kd.cF hg p.behind):Kd.Sb).1:Nat), .int (((p.behind,x.2|||Kd.cF hg p.behind):Kd.Sb).2:Nat)]):=aq;generalize upd H' t1 (.tup [.int (p.behind:Nat), .int ((x.2|||Kd.cF hg p.behind:Nat):Int)])=H7 at s7 ht7⊢;have hd7:=s7 _ _ hd6;have hw7:=s7 _ _ hw6;have ajE:=QJ.same s7;have sz:=Kd.ab5 I hm hr0 D6.nd D6.sound;refine ad5 (b:=(!decide (((p.behind,x.2|||Kd.cF hg p.behind):Kd.Sb)∈ys2))&&Kd.xX x.2 p) (Tv.and (Ev.cJ (agi (aj rfl) (aj rfl) hd7 ht7)) fun _=>Ev.cJ (gn (aj rfl) (aj rfl) fun Q q=>⟨x.2,xa,p,rfl,⟨dx,s7 _ _ hx⟩,q⟩)) (fun g=>?_) (fun g=>?_)
       ·rw[Bool.and_eq_true,Bool.not_eq_true',decide_eq_false_iff_not]at g
        have D8:=D6.put R hps mp g.2 g.1
        -- seen[behind]=True
        refine qG (aV (v:= .bl true) _ (aj (v:= .ref d) rfl _ (aj (v:= .ref t1) rfl _ ⟨d,_,rfl,K6.t (k:=sK (p.behind,x.2|||Kd.cF hg p.behind)) hd7 ht7 (cB (by unfold Aw;rw[List.length_map];omega)),?_⟩)));rw[ahX g.1];have kd:Keep H7 d (upd H7 d (.dT (Aw (ys2++[(p.behind,x.2|||Kd.cF hg p.behind)])))):=cC;have hd8:upd H7 d (.dT (Aw (ys2++[(p.behind,x.2|||Kd.cF hg p.behind)]))) d=some (.dT (Aw (ys2++[(p.behind,x.2|||Kd.cF hg p.behind)]))):=aq;have Zy:=kd _ _ hw7 (eX hw7 hd7 fun z=>nomatch z);have ht8:=fC kd hd7 (fun _ e=>nomatch e) ht7;have ajF:∀(i:Nat) t y,VD[i]?=some t→Ry[i]?=some y→upd H7 d (.dT (Aw (ys2++[(p.behind,x.2|||Kd.cF hg p.behind)]))) t=some (.tup [.int (y.1:Nat), .int (y.2:Nat)]):=fun i t y e1 e2=>fC kd hd7 (fun _ e=>nomatch e) (ajE.2 i t y e1 e2)
        have s8:Same H (upd H7 d (.dT (Aw (ys2++[(p.behind,x.2|||Kd.cF hg p.behind)])))):=jd (s6.trans s7) nd0;generalize upd H7 d (.dT (Aw (ys2++[(p.behind,x.2|||Kd.cF hg p.behind)])))=H8 at hd8 Zy ht8 ajF s8⊢
        -- waiting.append(behind)
        have akv:VD.length≤30000:=by
         have e1:=QJ.1;rw[List.length_append]at n8;omega
        refine Hg (aj (v:= .ref wl) rfl) Zy (aj (v:= .ref t1) rfl _ ⟨wl,_,_,rfl,rfl,Zy,cB (by rw[List.length_map];omega),?_⟩);have kw8:Keep H8 wl (upd H8 wl (.lst (rV VD++[.ref t1]))):=cC;refine⟨ys2++[(p.behind,x.2|||Kd.cF hg p.behind)],Ry++[(p.behind,x.2|||Kd.cF hg p.behind)],VD++[t1],_,_,?_,rfl,jd s8 afd,kw8 _ _ hd8 (eX hd8 Zy fun z=>nomatch z),by rw[aq,Ei];rfl,⟨by rw[List.length_append,List.length_append,QJ.1];rfl,fun i t y e1 e2=>?_⟩,by rw[et];exact D8⟩
        ·rw[List.length_append,List.length_append]
         show 2*(400-(ys2.length+1))+(Ry.length+1)≤_;omega
        ·rcases cX e1 with⟨q1,q2⟩|⟨q1,q2⟩
         ·rcases cX e2 with⟨p3,p4⟩|⟨p3,p4⟩
          ·exact fC kw8 Zy (fun _ e=>nomatch e) (ajF i t y q2 p4)
          ·rw[QJ.1]at q1
           omega
         ·rcases cX e2 with⟨p3,p4⟩|⟨p3,p4⟩
          ·rw[QJ.1]at q1
           omega
          ·subst q2 p4
           exact fC kw8 Zy (fun _ e=>nomatch e) ht8
       ·refine⟨ys2,Ry,VD,_,_,me,rfl,s6.trans s7,hd7,hw7,ajE,?_⟩
        rw[et];refine D6.pass fun go=>?_
        rw[Bool.and_eq_false_iff,Bool.not_eq_false',decide_eq_true_iff,go]at g;rcases g with g|g
        ·exact g
        ·cases g
      ·rintro σ H' ⟨ys2,Ry,VD,v9,v10,me,rfl,s6,hd6,hw6,QJ,D6⟩
       rw[List.length_map,r2,List.take_length]at D6;refine⟨2*(400-ys2.length)+Ry.length,?_,ys2,Ry,VD,_,_,_,_,rfl,?_,rfl,s6,hd6,hw6,QJ,D6.done R hps⟩
       ·rw[List.length_append]
        show _<2*(400-ys.length)+(wt'.length+1);omega
       ·rw[List.length_append]at n8
        omega
end
end Kq
end
section
namespace Kq
open PySem PySem.Spec PyProof.Rows L2 Hk Hs
theorem ahZ {r:List V→Hp→VK→Prop}{t:TA}{σ:L2.St}{H:Hp}{Q:VK}(h:t σ H fun vs H1=>r vs H1 Q):tCB r t σ H Q:=h
section
variable {P:Program}{w:World}{K:PySem.W.Frag}{mg:Str→Option Value}{base:Heap}{A:Ad}
def Il:Sp:=fun vs H Q _=>∃(l:Addr) (ts:List Addr) (ys:List Kd.Sb),vs=[.ref l]∧H l=some (.lst (rV ts))∧yX H ts ys∧ys.length≤1000∧(∀y∈ys,y.1<24)∧∀out,Kd.jX out→(∀x,x∈out↔∃y∈ys,y.1=x)→Gives H Q (nV out)
theorem Im (T:Txt K mg A):bK P w K mg base cV 1 A.lX A.iK ["states"] Il:=by
 refine T.fZ.fn.ok pX (fun vs H Q E h=>?_) (fun cdv Ar outer s H vs Q E hr h=>?_)
 ·obtain⟨l,ts,ys,rfl,_⟩:=h
  rfl
 ·obtain⟨l,ts,ys,rfl,hl,st,hn,h24,k⟩:=h
  refine⟨_,(aB (aL (bH (WD rfl) (by rfl) T.Bs yH (ak (Jt (LQ rfl) (by rfl) T.ahA ae7 (ak (pW rfl pX.nd (iI (pv 0)) (gP (N:=["states","state"]) (sc:=aF lV) (own:=[("state",1)]) rfl (by decide+kernel)) (fun _ _ _ _ _=>(cO (i:=1) pX.nd rfl (by first|exact Or.inl rfl|exact Or.inr rfl))) (fun _ _ _ _ _=>nZ) (fun _ _ _ _ _=>(bG (ab9 K rfl) (pv 1) aO (fun _ _=>rfl)))) ao)) ao)))),?_⟩;refine bQ (ahZ (cu (ahZ (cu (Bh (K:=K) (xs:=rV ts) (out:=nV (ys.map (·.1))) (aj rfl) (aU hl) (by rw[List.length_map,st.1];omega) (by rw[bR,List.length_map,List.length_map,st.1]) (fun _=>rfl) (fun j x y H1 hx hy s1=>?_) _ fun H1 D s1 nD hD=>?_)))))
  ·obtain⟨t,ht,rfl⟩:=vm hx
   obtain⟨q,hq⟩:=j5 st.1 ht;rw[List.getElem?_map,List.getElem?_map,hq]at hy;have hy:V.int (q.1:Nat)=y:=Option.some.inj hy;rw[←hy];exact Ev.eg (jU (j:=0) (aj rfl) aV (s1 _ _ (st.2 j t q ht hq)) rfl)
  ·refine⟨D,Kd.iz (ys.map (·.1)),rfl,by rw[uh];exact aU hD,by show(List.map _ _).length≤2000;rw[List.length_map,List.length_map];omega,fun d p nd md np=>?_⟩
   have hout:Kd.jX ((List.range 24).filter fun x=>(ys.map (·.1)).contains x):=Kd.dB _ (Kd.eE _);have ah0:∀x,x∈(List.range 24).filter (fun x=>(ys.map (·.1)).contains x)↔x∈ys.map (·.1):=fun x=>by
    rw[List.mem_filter,List.mem_range,List.contains_iff_mem];refine⟨fun z=>z.2,fun z=>⟨?_,z⟩⟩;obtain⟨y,my,e⟩:=List.mem_map.mp z;rw[←e];exact h24 y my
   have pd:d.Perm (Kd.iz ((List.range 24).filter fun x=>(ys.map (·.1)).contains x)):=by
    refine(List.perm_ext_iff_of_nodup nd ?_).mpr fun kk=>?_
    ·show(List.map _ _).Pairwise (·≠·)
     rw[List.pairwise_map];exact(Kd.iu hout).imp fun h e=>h (by omega)
    ·rw[md]
     constructor
     ·intro m
      obtain⟨n,mn,e⟩:=List.mem_map.mp m;exact List.mem_map.mpr ⟨n,(ah0 n).mpr mn,e⟩
     ·intro m
      obtain⟨n,mn,e⟩:=List.mem_map.mp m;exact List.mem_map.mpr ⟨n,(ah0 n).mp mn,e⟩
   have hlen:d.length≤24:=by
    rw[pd.length_eq];show(List.map _ _).length≤24;rw[List.length_map];exact Kd.bB _ _
   refine⟨p,d,rfl,aq,nd,by omega,fun ns p2 g1 g2 np2=>?_⟩;rw[Kd.CN (g1.trans pd) g2 (Kd.iu hout) hout fun x=>Iff.rfl,uh];have s2:Same H1 (upd H1 p (Us P w p d)):=aZ np;refine k _ hout (fun x=>(ah0 x).trans ⟨fun m=>?_,fun⟨y,my,e⟩=>List.mem_map.mpr ⟨y,my,e⟩⟩) _ p2 ((s1.trans s2).trans (aZ np2)) ((s1.trans s2).free np2) aq;obtain⟨y,my,e⟩:=List.mem_map.mp m;exact⟨y,my,e⟩
def Kl:Sp:=fun vs H Q _=>∃(l:Addr) (ts:List Addr) (ys:List Kd.Sb),vs=[.ref l]∧H l=some (.lst (rV ts))∧yX H ts ys∧∀H',Same H H'→Q (.int (Kd.yd ys:Nat)) H'
theorem Km (T:Txt K mg A):bK P w K mg base cV 1 A.nP A.jq ["states"] Kl:=by
 refine T.gZ.fn.ok lW (fun vs H Q E h=>?_) (fun cdv Ar outer s H vs Q E hr h=>?_)
 ·obtain⟨l,ts,ys,rfl,_⟩:=h
  rfl
 ·obtain⟨l,ts,ys,rfl,hl,st,k⟩:=h
  refine⟨_,(au (bJ (i:=1) lW.nd rfl (by first|exact Or.inl rfl|exact Or.inr rfl) aO)
   (au (rU PassesOwn.never rfl (iI (pv 0)) (cO (i:=2) lW.nd rfl (by first|exact Or.inl rfl|exact Or.inr rfl))
    (aB (bJ (i:=1) lW.nd rfl (by first|exact Or.inl rfl|exact Or.inr rfl) (dw Zo (pv 1) (bG bw (pv 2) aO (fun _ _=>rfl))))))
   (aB (aL (pv 1))))),?_⟩
  refine nj aV ?_;refine qG (G9 (K:=K) (a:=l) (xs:=rV ts) (aj rfl) (aU hl) (fun j σ H'=>Same H H'∧∃v2,σ=[some (.ref l),some (.int (Kd.yd (ys.take j):Nat)),v2]) ?_ ?_ ?_ ?_)
  ·exact⟨same_refl _,none,rfl⟩
  ·rintro j σ H' hj ⟨s1,v2,rfl⟩
   exact aU (s1 _ _ hl)
  ·rintro j y σ H' hj ⟨s1,v2,rfl⟩
   obtain⟨t,ht,rfl⟩:=vm hj;obtain⟨q,hq⟩:=j5 st.1 ht;refine Sh (aj rfl) (jU (j:=1) (aj rfl) aV (s1 _ _ (st.2 j t q ht hq)) rfl) _ ⟨s1,some (.ref t),?_⟩;rw[Kd.take_snoc hq];show _=[some (V.ref l),some (V.int ((Kd.yd (ys.take j++[q]):Nat):Int)),some (V.ref t)];unfold Kd.yd;rw[List.foldl_append];rfl
  ·rintro σ H' ⟨s1,v2,rfl⟩
   rw[List.length_map,st.1,List.take_length];exact jx (v:= .int (Kd.yd ys:Nat)) (aj rfl) (k H' s1)
def XC (A:Ad):Sp:=fun vs H Q _=>∃(a:Addr) (z:lM) (h:Kh.House) (cb:List (Nat×List Nat)) (hg:List (Nat×Nat)) (m r:Nat),vs=[.ref a, .int m, .int r]∧Av A H a z h cb hg m∧r<h.rooms∧Gives H Q (iV (HouseNeutral.told ⟨((h.foundRooms (bO h m) r).length:Int),h.foundRooms (bO h m) r++h.foundKeys (bO h m) r⟩))
theorem XD (T:Txt K mg A):bK P w K mg base cV 5 A.wW A.qy ["house","bunch","start"] (XC A):=by
 refine T.pJ.fn.ok Jg (fun vs H Q E h=>?_) (fun cdv Ar outer s H vs Q E hr h=>?_)
 ·obtain⟨a,z,h,cb,hg,m,r,rfl,_⟩:=h
  rfl
 ·obtain⟨a,z,h,cb,hg,m,r,rfl,⟨X,I,hm⟩,hr0,k⟩:=h
  refine⟨_,(au (bJ (i:=3) Jg.nd rfl (by first|exact Or.inl rfl|exact Or.inr rfl) (aH (Rx T) (hr.mono (by decide)) rfl T.lB.mg T.lB.fn.kp (U5 T) .nil aP (ak (aH (cP T) (hr.mono (by decide)) rfl T.aX.mg T.aX.fn.kp (cT T) .nil aP (ak (pv 0) ao)) (ak (aH (PN T) (hr.mono (by decide)) rfl T.jG.mg T.jG.fn.kp (Rf T) .nil aP (ak (pv 0) ao)) (ak (pv 1) (ak (pv 2) ao))))))
   (aB (aL (dw KZ (aH (lO T) (hr.mono (by decide)) rfl T.cW.mg T.cW.fn.kp (oY T) .nil aP (ak (aH (Im T) (hr.mono (by decide)) rfl T.fZ.mg T.fZ.fn.kp (J2 T) .nil aP (ak (pv 3) ao)) ao)) (aH (zL T) (hr.mono (by decide)) rfl T.iD.mg T.iD.fn.kp (Ed T) .nil aP (ak (aH (Km T) (hr.mono (by decide)) rfl T.gZ.mg T.gZ.fn.kp (Mx T) .nil aP (ak (pv 3) ao)) ao)))))),?_⟩
  have r24:=I.rooms;rw[Zd]at k;refine dF (pQ (cu (bx (aA (aj rfl) bA) ⟨a,z,h,cb,hg,rfl,X,I,fun H1 b s1 nb hb=>?_⟩)));refine cu (bx (aA (aj rfl) bA) ⟨a,z,h,cb,hg,rfl,X.same s1,I,fun H2 lh s2 nlh hlh=>?_⟩);refine aA (aj rfl) (aA (aj rfl) bA) _ ⟨b,lh,m,r,h,_,cb,hg,rfl,(Ek I hb).same s2,I,hlh,hm,hr0,fun H3 l ts ys s3 nl hl st D=>?_⟩;have sz:=Kd.ab5 I hm hr0 D.nd D.sound;have x0:(Kd.startB hg m r).2<2^h.keys.length:=Kd.Oe hm (Kd.xK (fun p mp=>(I.Cy p mp).1) _);have s13:=(s1.trans s2).trans s3;refine bQ (pQ (cu (bx (aA (aj (v:= .ref l) rfl) bA) ⟨l,ts,ys,rfl,hl,st,by omega,fun y my=>?_,fun out so mo H4 D4 s4 nD4 hD4=>?_⟩)))
  ·have:=(Kd.uz I (x:=Kd.startB hg m r) hr0 x0 (D.sound y my)).1
   omega
  ·have eo:out=h.foundRooms (bO h m) r:=Kd.oh so (Kd.ad4 h _ r) fun x=>(mo x).trans (Kd.Z2 I hm hr0 D x).symm
   have ol:out.length≤h.rooms:=by rw[eo];exact Kd.bB _ _
   refine⟨D4,out,rfl,hD4,by omega,fun H5 D5 s5 nD5 hD5=>?_⟩;refine pQ (cu (bx (aA (aj (v:= .ref l) rfl) bA) ⟨l,ts,ys,rfl,s5 _ _ (s4 _ _ hl),(st.same s4).same s5,fun H5' s5'=>⟨Kd.yd ys,rfl,fun H6 D6 s6' nD6 hD6=>?_⟩⟩));have s6:=s5'.trans s6';rw[Kd.ab6 I hm hr0 D]at hD6;have kl:(h.foundKeys (bO h m) r).length≤h.keys.length:=Kd.bB _ _;have:=I.nk;rw[QG]at hD5;refine⟨D5,D6,_,_,rfl,rfl,s6 _ _ hD5,hD6,?_,fun p np=>?_⟩
   ·rw[List.length_cons,bR,bR]
    exact Nat.le_of_lt (cB (by show out.length+1+(h.foundKeys (bO h m) r).length≤30000;omega))
   ·refine k _ p ((s13.trans s4).trans (s5.trans (s6.trans (aZ np)))) ((s13.trans s4).free (s5.free (s6.free np))) ?_
    rw[aq,←eo,vh];rfl
end
end Kq
end
section
namespace Kq
open PySem PySem.Spec PyProof.Rows L2 Hk
def zM (A:Ad) (H:Hp) (d dd:Addr) (s:KhRooms.State) (T:List Addr):Prop:=match s with
 |none=>H d=some (.ins A.gw dd (jL .non))∧T=[d]
 |some h=>∃a z cb hg,H d=some (.ins A.gw dd (jL (.ref a)))∧bh A H a z h cb hg∧Kd.bV h cb hg∧T=d::Ts z
theorem zM.same {A:Ad}{H H':Hp}{d dd:Addr}{s:KhRooms.State}{T:List Addr}(h:zM A H d dd s T) (e:Same H H'):zM A H' d dd s T:=by
 cases s with
 |none=>exact⟨e _ _ h.1,h.2⟩
 |some x=>
  obtain⟨a,z,cb,hg,h1,h2,h3,h4⟩:=h;exact⟨a,z,cb,hg,e _ _ h1,h2.same e,h3,h4⟩
theorem bh.away {A:Ad}{H H':Hp}{g:Addr}{od:Obj}{u:HO}{a:Addr}{z:lM}{h:Kh.House}{cb:List (Nat×List Nat)}{hg:List (Nat×Nat)}(X:bh A H a z h cb hg) (hgz:H g=some (.cM od u)) (kp:Keep H g H'):bh A H' a z h cb hg:=by
 have kk:∀b o,H b=some o→(∀od u,o≠ .cM od u)→H' b=some o:=fun b o e n=>kp b o e (eX e hgz (n od u))
 refine⟨kk _ _ X.ins (fun _ _ e=>nomatch e),?_,kk _ _ X.iW (fun _ _ e=>nomatch e),X.oZ,fun i x k h1 h2=>?_,kk _ _ X.jw (fun _ _ e=>nomatch e),X.nu,fun i x k h1 h2=>?_,kk _ _ X.gA (fun _ _ e=>nomatch e),X.mD,fun i x k h1 h2=>kk _ _ (X.doors i x k h1 h2) (fun _ _ e=>nomatch e),kk _ _ X.fL (fun _ _ e=>nomatch e),X.jT,fun i x k h1 h2=>kk _ _ (X.sides i x k h1 h2) (fun _ _ e=>nomatch e),kk _ _ X.hang (fun _ _ e=>nomatch e),X.nd⟩
 ·obtain⟨dx,e⟩:=X.mak
  exact⟨dx,kk _ _ e (fun _ _ e=>nomatch e)⟩
 ·obtain⟨dx,l,e1,e2⟩:=X.keys i x k h1 h2
  exact⟨dx,l,kk _ _ e1 (fun _ _ e=>nomatch e),kk _ _ e2 (fun _ _ e=>nomatch e)⟩
 ·obtain⟨dx,l,e1,e2⟩:=X.cyls i x k h1 h2
  exact⟨dx,l,kk _ _ e1 (fun _ _ e=>nomatch e),kk _ _ e2 (fun _ _ e=>nomatch e)⟩
theorem zM.away {A:Ad}{H H':Hp}{g:Addr}{od:Obj}{u:HO}{d dd:Addr}{s:KhRooms.State}{T:List Addr}(h:zM A H d dd s T) (hgz:H g=some (.cM od u)) (kp:Keep H g H'):zM A H' d dd s T:=by
 cases s with
 |none=>exact⟨kp _ _ h.1 (eX h.1 hgz fun e=>nomatch e),h.2⟩
 |some x=>
  obtain⟨a,z,cb,hg,h1,h2,h3,h4⟩:=h;exact⟨a,z,cb,hg,kp _ _ h1 (eX h1 hgz fun e=>nomatch e),h2.away hgz kp,h3,h4⟩
theorem zM.head {A:Ad}{H:Hp}{d dd:Addr}{s:KhRooms.State}{T:List Addr}(h:zM A H d dd s T):d∈T∧∃v,H d=some (.ins A.gw dd (jL v)):=by
 cases s with
 |none=>
  rw[h.2];exact⟨List.mem_cons_self ..,_,h.1⟩
 |some x=>
  obtain⟨a,z,cb,hg,h1,h2,h3,h4⟩:=h;rw[h4];exact⟨List.mem_cons_self ..,_,h1⟩
theorem zM.inv {A:Ad}{H:Hp}{d dd:Addr}{h:Kh.House}{T:List Addr}(X:zM A H d dd (some h) T):∃cb hg,Kd.bV h cb hg:=by
 obtain⟨a,z,cb,hg,h1,h2,h3,h4⟩:=X;exact⟨cb,hg,h3⟩
def yZ (h:Kh.House) (x:KhRooms.Call):Kh.House×KhRooms.Answer:=match KhRooms.made h x with
 |some r=>r
 |none=>(h,KhRooms.answer h x)
def isOpen:KhRooms.Call→Bool
 | .open_ .. =>true
 |_=>false
theorem VF {x:KhRooms.Call}(h:isOpen x=false):KhRooms.step none x=(none,KhRooms.says (-5)):=by
 cases x<;>first|rfl|cases h
theorem VG {x:KhRooms.Call}(g:Kh.House) (h:isOpen x=false):KhRooms.step (some g) x=(some (yZ g x).1,(yZ g x).2):=by
 have e:∀y:KhRooms.Call,isOpen y=false→KhRooms.step (some g) y=(match KhRooms.made g y with
   |some x=>(some x.1,x.2)
   |none=>(some g,KhRooms.answer g y)):=by
  intro y hy;cases y<;>first|rfl|cases hy
 rw[e x h];unfold yZ;cases KhRooms.made g x<;>rfl
theorem ah1 {w row:List Nat}{x:KhRooms.Call}(h:Kd.jy 0 w row=some x):∃n d t p q r k,w=[n,d,t,p,q,r,k]∧x= .open_ n d t p q r k:=by
 match w,h with
 |[n,d,t,p,q,r,k],h=>
  cases h;exact⟨n,d,t,p,q,r,k,rfl,rfl⟩
end Kq
end
section
namespace Kq
open PySem PySem.Spec PyProof.Rows L2 Hk Hs
theorem rR {h:Kh.House}{x:KhRooms.Call}{r:Kh.House×KhRooms.Answer}(e:KhRooms.made h x=some r):yZ h x=r:=by
 unfold yZ;rw[e]
theorem VH (h:Kh.House) (k:Kh.Key):∃r,KhRooms.made h (.key k.grooves k.cuts)=some r:=by
 rw[Kd.YJ]
 split
 ·exact⟨_,rfl⟩
 ·split<;>exact⟨_,rfl⟩
theorem VJ (h:Kh.House) (c:Nat×List Nat):∃r,KhRooms.made h (.cylinder c.1 c.2)=some r:=by
 rw[Kd.YK]
 split
 ·exact⟨_,rfl⟩
 ·split<;>exact⟨_,rfl⟩
theorem Rz (h:Kh.House) (a b k c l d:Nat):∃r,KhRooms.made h (.door a b k c l d)=some r:=by
 rw[Kd.Ua]
 split
 ·split
  ·exact⟨_,rfl⟩
  ·split<;>exact⟨_,rfl⟩
 ·exact⟨_,rfl⟩
theorem VL (h:Kh.House) (s k c:Nat):∃r,KhRooms.made h (.fit s k c)=some r:=by
 rw[Kd.YL]
 split
 ·exact⟨_,rfl⟩
 ·split<;>exact⟨_,rfl⟩
theorem RB (h:Kh.House) (k r:Nat):∃q,KhRooms.made h (.hang k r)=some q:=by
 rw[Kd.Ub]
 split
 ·exact⟨_,rfl⟩
 ·split<;>exact⟨_,rfl⟩
theorem M6 (h:Kh.House) (k:Nat):∃q,KhRooms.made h (.unhang k)=some q:=by
 rw[Kd.Lx]
 split
 ·exact⟨_,rfl⟩
 ·split<;>exact⟨_,rfl⟩
section
variable {w row:List Nat}{x:KhRooms.Call}
theorem of1 (h:Kd.jy 1 w row=some x):∃g,w=[g]∧x= .key g row:=by
 match w,h with|[g],h=>cases h;exact⟨g,rfl,rfl⟩
theorem of2 (h:Kd.jy 2 w row=some x):∃g,w=[g]∧x= .cylinder g row:=by
 match w,h with|[g],h=>cases h;exact⟨g,rfl,rfl⟩
theorem of3 (h:Kd.jy 3 w row=some x):∃a b k c l d,w=[a,b,k,c,l,d]∧x= .door a b k c l d:=by
 match w,h with|[a,b,k,c,l,d],h=>cases h;exact⟨a,b,k,c,l,d,rfl,rfl⟩
theorem of4 (h:Kd.jy 4 w row=some x):∃s k c,w=[s,k,c]∧x= .fit s k c:=by
 match w,h with|[s,k,c],h=>cases h;exact⟨s,k,c,rfl,rfl⟩
theorem of5 (h:Kd.jy 5 w row=some x):∃k r,w=[k,r]∧x= .hang k r:=by
 match w,h with|[k,r],h=>cases h;exact⟨k,r,rfl,rfl⟩
theorem of6 (h:Kd.jy 6 w row=some x):∃k,w=[k]∧x= .unhang k:=by
 match w,h with|[k],h=>cases h;exact⟨k,rfl,rfl⟩
theorem of7 (h:Kd.jy 7 w row=some x):w=[]∧x= .counts:=by
 match w,h with|[],h=>cases h;exact⟨rfl,rfl⟩
theorem of8 (h:Kd.jy 8 w row=some x):∃s,w=[s]∧x= .opens s:=by
 match w,h with|[s],h=>cases h;exact⟨s,rfl,rfl⟩
theorem of9 (h:Kd.jy 9 w row=some x):∃b r,w=[b,r]∧x= .leads b r:=by
 match w,h with|[b,r],h=>cases h;exact⟨b,r,rfl,rfl⟩
theorem afe (h:Kd.jy 10 w row=some x):∃b r,w=[b,r]∧x= .found b r:=by
 match w,h with|[b,r],h=>cases h;exact⟨b,r,rfl,rfl⟩
theorem afg (h:Kd.jy 11 w row=some x):∃b r t,w=[b,r,t]∧x= .way b r t:=by
 match w,h with|[b,r,t],h=>cases h;exact⟨b,r,t,rfl,rfl⟩
theorem ac5 (h:Kd.jy 12 w row=some x):∃b r t k,w=[b,r,t,k]∧x= .small b r t k:=by
 match w,h with|[b,r,t,k],h=>cases h;exact⟨b,r,t,k,rfl,rfl⟩
theorem afh (h:Kd.jy 13 w row=some x):∃b r t,w=[b,r,t]∧x= .needed b r t:=by
 match w,h with|[b,r,t],h=>cases h;exact⟨b,r,t,rfl,rfl⟩
theorem afi (h:Kd.jy 14 w row=some x):∃b r t,w=[b,r,t]∧x= .through b r t:=by
 match w,h with|[b,r,t],h=>cases h;exact⟨b,r,t,rfl,rfl⟩
theorem afj (h:Kd.jy 15 w row=some x):∃b r,w=[b,r]∧x= .traps b r:=by
 match w,h with|[b,r],h=>cases h;exact⟨b,r,rfl,rfl⟩
theorem afk (h:Kd.jy 16 w row=some x):∃b t,w=[b,t]∧x= .shut b t:=by
 match w,h with|[b,t],h=>cases h;exact⟨b,t,rfl,rfl⟩
theorem afl (h:Kd.jy 17 w row=some x):∃b,w=[b]∧x= .parts b:=by
 match w,h with|[b],h=>cases h;exact⟨b,rfl,rfl⟩
theorem ac6 {p:Nat}(lt:p<18) (hp:p≠0) (h:Kd.jy p w row=some x):isOpen x=false:=by
 match p,lt,hp,h with
 |0,_,hp,_=>exact absurd rfl hp
 |1,_,_,h=>obtain⟨_,_,rfl⟩:=of1 h;rfl
 |2,_,_,h=>obtain⟨_,_,rfl⟩:=of2 h;rfl
 |3,_,_,h=>obtain⟨_,_,_,_,_,_,_,rfl⟩:=of3 h;rfl
 |4,_,_,h=>obtain⟨_,_,_,_,rfl⟩:=of4 h;rfl
 |5,_,_,h=>obtain⟨_,_,_,rfl⟩:=of5 h;rfl
 |6,_,_,h=>obtain⟨_,_,rfl⟩:=of6 h;rfl
 |7,_,_,h=>obtain⟨_,rfl⟩:=of7 h;rfl
 |8,_,_,h=>obtain⟨_,_,rfl⟩:=of8 h;rfl
 |9,_,_,h=>obtain⟨_,_,_,rfl⟩:=of9 h;rfl
 |10,_,_,h=>obtain⟨_,_,_,rfl⟩:=afe h;rfl
 |11,_,_,h=>obtain⟨_,_,_,_,rfl⟩:=afg h;rfl
 |12,_,_,h=>obtain⟨_,_,_,_,_,rfl⟩:=ac5 h;rfl
 |13,_,_,h=>obtain⟨_,_,_,_,rfl⟩:=afh h;rfl
 |14,_,_,h=>obtain⟨_,_,_,_,rfl⟩:=afi h;rfl
 |15,_,_,h=>obtain⟨_,_,_,rfl⟩:=afj h;rfl
 |16,_,_,h=>obtain⟨_,_,_,rfl⟩:=afk h;rfl
 |17,_,_,h=>obtain⟨_,_,rfl⟩:=afl h;rfl
 |p+18,lt,_,_=>exact absurd lt (Nat.not_lt.mpr (Nat.le_add_left 18 p))
end
section
variable {P:Program}{w:World}{K:PySem.W.Frag}{mg:Str→Option Value}{base:Heap}{A:Ad}
def Ko (A:Ad):Sp:=fun vs H Q _=>∃(a o:Addr) (z:lM) (h:Kh.House) (cb:List (Nat×List Nat)) (hg:List (Nat×Nat)) (H0:Hp) (p:Nat) (w row:List Nat) (x:KhRooms.Call) (n:Nat) (c:List (List Int)),vs=[.ref a, .ref o]∧bh A H a z h cb hg∧Kd.bV h cb hg∧CallAt A H0 H o p w row n∧Kd.Asks c p w row x∧p≠0∧p≤8∧
 Done A H a z Q (yZ h x).1 (HouseNeutral.told (yZ h x).2)
theorem Kr (T:Txt K mg A):bK P w K mg base cV 6 A.nQ A.jr ["house","call"] (Ko A):=by
 refine T.g8.fn.ok yF (fun vs H Q E h=>?_) (fun cdv Ar outer s H vs Q E hr h=>?_)
 ·obtain⟨a,o,z,h,cb,hg,H0,p,w,row,x,n,c,rfl,_⟩:=h
  rfl
 ·obtain⟨a,o,z,h,cb,hg,H0,p,w,row,x,n,c,rfl,X,I,⟨dx,lw,lr,c1,c2,c3,c4⟩,as,hp0,hp8,dn⟩:=h
  have cc:=T.qY.cl;refine⟨_,(au (bJ (i:=2) yF.nd rfl (by first|exact Or.inl rfl|exact Or.inr rfl) (aN (pv 1) rfl))
   (au (bU (bM dW (aN (pv 1) rfl) (aY (v:= .int 1) rfl T.QD ⟨_,rfl⟩) (bD _))
    (aB (aL (aH (acP T) (hr.mono (by decide)) rfl T.uM.mg T.uM.fn.kp (aei T) .nil aP (ak (pv 0) (ak (vo T.JZ.mkr (aaE T) (hr.mono (by decide)) rfl T.JZ.mg (acC T) .nil aP (ak (bG bw (pv 2) aO (fun _ _=>rfl)) (ak (aN (pv 1) rfl) ao))) ao)))))
    bC)
   (au (bU (bM dW (aN (pv 1) rfl) (aY (v:= .int 2) rfl T.Br ⟨_,rfl⟩) (bD _))
    (aB (aL (aH (Pb T) (hr.mono (by decide)) rfl T.jC.mg T.jC.fn.kp (Q9 T) .nil aP (ak (pv 0) (ak (vo T.oW.mkr (MJ T) (hr.mono (by decide)) rfl T.oW.mg (OJ T) .nil aP (ak (bG bw (pv 2) aO (fun _ _=>rfl)) (ak (aN (pv 1) rfl) ao))) ao)))))
    bC)
   (au (bU (bM dW (aN (pv 1) rfl) (aY (v:= .int 3) rfl T.aap ⟨_,rfl⟩) (bD _))
    (aB (aL (aH (Rp T) (hr.mono (by decide)) rfl T.lF.mg T.lF.fn.kp (U7 T) .nil aP (ak (pv 0) (ak (pv 2) ao)))))
    bC)
   (au (bU (bM dW (aN (pv 1) rfl) (aY (v:= .int 4) rfl T.acA ⟨_,rfl⟩) (bD _))
    (aB (aL (aH (aaK T) (hr.mono (by decide)) rfl T.rO.mg T.rO.fn.kp (acE T) .nil aP (ak (pv 0) (ak (bG bw (pv 2) aO (fun _ _=>rfl)) (ak (Ca (ak (bG bw (pv 2) aO (fun _ _=>rfl)) (ak (bG bw (pv 2) aO (fun _ _=>rfl)) ao))) ao))))))
    bC)
   (au (bU (bM dW (aN (pv 1) rfl) (aY (v:= .int 5) rfl T.aaq ⟨_,rfl⟩) (bD _))
    (aB (aL (aH (aaM T) (hr.mono (by decide)) rfl T.rP.mg T.rP.fn.kp (acF T) .nil aP (ak (pv 0) (ak (bG bw (pv 2) aO (fun _ _=>rfl)) (ak (bG bw (pv 2) aO (fun _ _=>rfl)) ao))))))
    bC)
   (au (bU (bM dW (aN (pv 1) rfl) (aY (v:= .int 6) rfl T.Uz ⟨_,rfl⟩) (bD _))
    (aB (aL (aH (Vj T) (hr.mono (by decide)) rfl T.mX.mg T.mX.fn.kp (W6 T) .nil aP (ak (pv 0) (ak (bG bw (pv 2) aO (fun _ _=>rfl)) ao)))))
    bC)
   (au (bU (bM dW (aN (pv 1) rfl) (aY (v:= .int 7) rfl T.UG ⟨_,rfl⟩) (bD _))
    (aB (aL (aH (Xk T) (hr.mono (by decide)) rfl T.pG.mg T.pG.fn.kp (aaw T) .nil aP (ak (pv 0) ao))))
    bC)
   (aB (aL (aH (Pj T) (hr.mono (by decide)) rfl T.jD.mg T.jD.fn.kp (Ra T) .nil aP (ak (pv 0) (ak (bG bw (pv 2) aO (fun _ _=>rfl)) ao))))))))))))),?_⟩
  refine nj (aW (aj rfl) c1 cc T.ju rfl) ?_;refine cD (Ev.cG (dh (x:=p) (y:=1) (aW (aj rfl) c1 cc T.bN rfl) aV)) (fun e=>?_) (fun e1=>?_)
  ·have e:=of_decide_eq_true e
   subst e;obtain⟨g,rfl,rfl⟩:=of1 as.is;obtain⟨r,hr'⟩:=VH h ⟨g,row⟩;rw[rR hr']at dn;refine bQ (pQ (cH (aj rfl) (cu (vN (cH (bI (j:=0) (aj rfl) aV (aU c2) rfl) (cH (aW (aj rfl) c1 cc T.GX rfl) fun y dy ny ndy ne=>⟨y,dy,_,_,rfl,aq,rfl,?_⟩))))));have s1:=o7 (C:=A.DG) (fs:=aak (.int (g:Nat)) (.ref lr)) ny ndy;exact⟨a,y,z,h,cb,hg,⟨g,row⟩,r,rfl,X.same s1,I,⟨dy,lr,aq,s1 _ _ c3⟩,as.short,hr',dn.less s1⟩
  refine cD (Ev.cG (dh (x:=p) (y:=2) (aW (aj rfl) c1 cc T.bN rfl) aV)) (fun e=>?_) (fun e2=>?_)
  ·have e:=of_decide_eq_true e
   subst e;obtain⟨g,rfl,rfl⟩:=of2 as.is;obtain⟨r,hr'⟩:=VJ h (g,row);rw[rR hr']at dn;refine bQ (pQ (cH (aj rfl) (cu (vN (cH (bI (j:=0) (aj rfl) aV (aU c2) rfl) (cH (aW (aj rfl) c1 cc T.GX rfl) fun y dy ny ndy ne=>⟨y,dy,_,_,rfl,aq,rfl,?_⟩))))));have s1:=o7 (C:=A.jQ) (fs:=Dm (.int (g:Nat)) (.ref lr)) ny ndy;exact⟨a,y,z,h,cb,hg,(g,row),r,rfl,X.same s1,I,⟨dy,lr,aq,s1 _ _ c3⟩,as.short,as.wR,hr',dn.less s1⟩
  refine cD (Ev.cG (dh (x:=p) (y:=3) (aW (aj rfl) c1 cc T.bN rfl) aV)) (fun e=>?_) (fun e3=>?_)
  ·have e:=of_decide_eq_true e
   subst e;obtain⟨p1,q1,k1,c1',l1,d1,rfl,rfl⟩:=of3 as.is;obtain⟨r,hr'⟩:=Rz h p1 q1 k1 c1' l1 d1;rw[rR hr']at dn;exact bQ (bx (aA (aj rfl) (aA (aj (v:= .ref lw) rfl) bA)) ⟨a,lw,z,h,cb,hg,p1,q1,k1,c1',l1,d1,r,rfl,X,I,c2,hr',dn⟩)
  refine cD (Ev.cG (dh (x:=p) (y:=4) (aW (aj rfl) c1 cc T.bN rfl) aV)) (fun e=>?_) (fun e4=>?_)
  ·have e:=of_decide_eq_true e
   subst e;obtain⟨s1',k1,c1',rfl,rfl⟩:=of4 as.is;obtain⟨r,hr'⟩:=VL h s1' k1 c1';rw[rR hr']at dn;refine bQ (pQ (cH (aj rfl) (cH (bI (j:=0) (aj rfl) aV (aU c2) rfl) (cu (aA (bI (j:=1) (aj rfl) aV (aU c2) rfl) (aA (bI (j:=2) (aj rfl) aV (aU c2) rfl) bA) _ ⟨by show 2≤sizeLine;decide,fun t nt=>?_⟩)))));have s1:Same H (upd H t (.tup [.int (k1:Nat), .int (c1':Nat)])):=aZ nt;exact⟨a,t,z,h,cb,hg,s1',k1,c1',r,rfl,X.same s1,I,aq,hr',dn.less s1⟩
  refine cD (Ev.cG (dh (x:=p) (y:=5) (aW (aj rfl) c1 cc T.bN rfl) aV)) (fun e=>?_) (fun e5=>?_)
  ·have e:=of_decide_eq_true e
   subst e;obtain⟨k1,r1,rfl,rfl⟩:=of5 as.is;obtain⟨r,hr'⟩:=RB h k1 r1;rw[rR hr']at dn;exact bQ (bx (aA (aj rfl) (aA (bI (j:=0) (aj rfl) aV (aU c2) rfl) (aA (bI (j:=1) (aj rfl) aV (aU c2) rfl) bA))) ⟨a,z,h,cb,hg,k1,r1,r,rfl,X,I,hr',dn⟩)
  refine cD (Ev.cG (dh (x:=p) (y:=6) (aW (aj rfl) c1 cc T.bN rfl) aV)) (fun e=>?_) (fun e6=>?_)
  ·have e:=of_decide_eq_true e
   subst e;obtain⟨k1,rfl,rfl⟩:=of6 as.is;obtain⟨r,hr'⟩:=M6 h k1;rw[rR hr']at dn;exact bQ (bx (aA (aj rfl) (aA (bI (j:=0) (aj rfl) aV (aU c2) rfl) bA)) ⟨a,z,h,cb,hg,k1,r,rfl,X,I,hr',dn⟩)
  refine cD (Ev.cG (dh (x:=p) (y:=7) (aW (aj rfl) c1 cc T.bN rfl) aV)) (fun e=>?_) (fun e7=>?_)
  ·have e:=of_decide_eq_true e
   subst e;obtain⟨rfl,rfl⟩:=of7 as.is;exact bQ (bx (aA (aj rfl) bA) ⟨a,z,h,cb,hg,rfl,X,I,dn⟩)
  ·have e1:=of_decide_eq_false e1
   have e2:=of_decide_eq_false e2;have e3:=of_decide_eq_false e3;have e4:=of_decide_eq_false e4;have e5:=of_decide_eq_false e5;have e6:=of_decide_eq_false e6;have e7:=of_decide_eq_false e7;have e8:p=8:=by omega
   subst e8;obtain⟨s1,rfl,rfl⟩:=of8 as.is;exact bQ (bx (aA (aj rfl) (aA (bI (j:=0) (aj rfl) aV (aU c2) rfl) bA)) ⟨a,z,h,cb,hg,s1,rfl,X,I,dn⟩)
def Io (A:Ad):Sp:=fun vs H Q _=>∃(a o:Addr) (z:lM) (h:Kh.House) (cb:List (Nat×List Nat)) (hg:List (Nat×Nat)) (H0:Hp) (p m:Nat) (rest row:List Nat) (x:KhRooms.Call) (n:Nat) (c:List (List Int)),vs=[.ref a, .ref o]∧Av A H a z h cb hg m∧CallAt A H0 H o p (m::rest) row n∧Kd.Asks c p (m::rest) row x∧9≤p∧
 ((rest.take 2).any fun r=>decide (h.rooms≤r))=false∧(∀b r t k,x= .small b r t k→k≤1)∧Gives H Q (iV (HouseNeutral.told (KhRooms.answer h x)))
theorem jV {h:Kh.House}{m:Nat}{rs:List Nat}{f:Kh.Bunch→KhRooms.Answer}(hm:m<2^h.keys.length) (hr:(rs.any fun r=>decide (h.rooms≤r))=false):KhRooms.ofBunch h m rs f=f (bO h m):=by
 unfold KhRooms.ofBunch KhRooms.bunch;rw[if_pos hm];show(if rs.any (fun(r:Nat)=>decide (h.rooms≤r))=true then KhRooms.says (-4)else f (bO h m))=_;rw[if_neg (by rw[hr];simp)]
theorem no1 {h:Kh.House}{r:Nat}(e:([r].any fun r=>decide (h.rooms≤r))=false):r<h.rooms:=by
 simp at e;exact e
theorem no2 {h:Kh.House}{r t:Nat}(e:([r,t].any fun r=>decide (h.rooms≤r))=false):r<h.rooms∧t<h.rooms:=by
 simp at e;exact e
theorem Ip (T:Txt K mg A):bK P w K mg base cV 9 A.lY A.iM ["house","call"] (Io A):=by
 refine T.gh.fn.ok pY (fun vs H Q E h=>?_) (fun cdv Ar outer s H vs Q E hr h=>?_)
 ·obtain⟨a,o,z,h,cb,hg,H0,p,m,rest,row,x,n,c,rfl,_⟩:=h
  rfl
 ·obtain⟨a,o,z,h,cb,hg,H0,p,m,rest,row,x,n,c,rfl,Ak,⟨dx,lw,lr,c1,c2,c3,c4⟩,as,hp9,hrs,hk1,k⟩:=h
  have cc:=T.qY.cl;have hm:=Ak.hm;refine⟨_,(au (bJ (i:=2) pY.nd rfl (by first|exact Or.inl rfl|exact Or.inr rfl) (aN (pv 1) rfl))
   (au (bJ (i:=3) pY.nd rfl (by first|exact Or.inl rfl|exact Or.inr rfl) (bG bw (pv 2) aO (fun _ _=>rfl)))
   (au (bU (bM dW (aN (pv 1) rfl) (aY (v:= .int 9) rfl T.W2 ⟨_,rfl⟩) (bD _))
    (aB (aL (aH (Xr T) (hr.mono (by decide)) rfl T.pI.mg T.pI.fn.kp (aay T) .nil aP (ak (pv 0) (ak (pv 3) (ak (bG bw (pv 2) aO (fun _ _=>rfl)) ao))))))
    bC)
   (au (bU (bM dW (aN (pv 1) rfl) (aY (v:= .int 10) rfl T.W3 ⟨_,rfl⟩) (bD _))
    (aB (aL (aH (XD T) (hr.mono (by decide)) rfl T.pJ.mg T.pJ.fn.kp (aaz T) .nil aP (ak (pv 0) (ak (pv 3) (ak (bG bw (pv 2) aO (fun _ _=>rfl)) ao))))))
    bC)
   (au (bU (bM dW (aN (pv 1) rfl) (aY (v:= .int 11) rfl T.acB ⟨_,rfl⟩) (bD _))
    (aB (aL (aH (ac4 T) (hr.mono (by decide)) rfl T.uO.mg T.uO.fn.kp (aek T) .nil aP (ak (pv 0) (ak (pv 3) (ak (bG bw (pv 2) aO (fun _ _=>rfl)) (ak (bG bw (pv 2) aO (fun _ _=>rfl)) ao)))))))
    bC)
   (au (bU (bM dW (aN (pv 1) rfl) (aY (v:= .int 12) rfl T.Jk ⟨_,rfl⟩) (bD _))
    (aB (aL (aH (Xv T) (hr.mono (by decide)) rfl T.pK.mg T.pK.fn.kp (aaA T) .nil aP (ak (pv 0) (ak (pv 3) (ak (bG bw (pv 2) aO (fun _ _=>rfl)) (ak (bG bw (pv 2) aO (fun _ _=>rfl)) (ak (bG bw (pv 2) aO (fun _ _=>rfl)) ao))))))))
    bC)
   (au (bU (bM dW (aN (pv 1) rfl) (aY (v:= .int 13) rfl T.UJ ⟨_,rfl⟩) (bD _))
    (aB (aL (aH (VB T) (hr.mono (by decide)) rfl T.m9.mg T.m9.fn.kp (Xb T) .nil aP (ak (pv 0) (ak (pv 3) (ak (bG bw (pv 2) aO (fun _ _=>rfl)) (ak (bG bw (pv 2) aO (fun _ _=>rfl)) ao)))))))
    bC)
   (au (bU (bM dW (aN (pv 1) rfl) (aY (v:= .int 14) rfl T.Q6 ⟨_,rfl⟩) (bD _))
    (aB (aL (aH (Rv T) (hr.mono (by decide)) rfl T.lE.mg T.lE.fn.kp (U6 T) .nil aP (ak (pv 0) (ak (pv 3) (ak (bG bw (pv 2) aO (fun _ _=>rfl)) (ak (bG bw (pv 2) aO (fun _ _=>rfl)) ao)))))))
    bC)
   (au (bU (bM dW (aN (pv 1) rfl) (aY (v:= .int 15) rfl T.W4 ⟨_,rfl⟩) (bD _))
    (aB (aL (aH (Xx T) (hr.mono (by decide)) rfl T.pL.mg T.pL.fn.kp (aaB T) .nil aP (ak (pv 0) (ak (pv 3) (ak (bG bw (pv 2) aO (fun _ _=>rfl)) ao))))))
    bC)
   (au (bU (bM dW (aN (pv 1) rfl) (aY (v:= .int 16) rfl T.aar ⟨_,rfl⟩) (bD _))
    (aB (aL (aH (aaT T) (hr.mono (by decide)) rfl T.rQ.mg T.rQ.fn.kp (acG T) .nil aP (ak (pv 0) (ak (pv 3) (ak (bG bw (pv 2) aO (fun _ _=>rfl)) ao))))))
    bC)
   (aB (aL (aH (Xz T) (hr.mono (by decide)) rfl T.pN.mg T.pN.fn.kp (aaC T) .nil aP (ak (pv 0) (ak (pv 3) ao))))))))))))))),?_⟩
  refine nj (aW (aj rfl) c1 cc T.ju rfl) ?_;refine nj (bI (j:=0) (v:= .int (m:Nat)) (aj rfl) aV (aU c2) rfl) ?_;refine cD (Ev.cG (dh (x:=p) (y:=9) (aW (aj rfl) c1 cc T.bN rfl) aV)) (fun e=>?_) (fun e1=>?_)
  ·have e:=of_decide_eq_true e
   subst e;obtain⟨b',r,ew,rfl⟩:=of9 as.is;cases ew;rw[show KhRooms.answer h (.leads m r)=_ from jV hm hrs]at k;exact bQ (bx (aA (aj rfl) (aA (aj rfl) (aA (bI (j:=1) (aj rfl) aV (aU c2) rfl) bA))) ⟨a,z,h,cb,hg,m,r,rfl,Ak,no1 hrs,k⟩)
  refine cD (Ev.cG (dh (x:=p) (y:=10) (aW (aj rfl) c1 cc T.bN rfl) aV)) (fun e=>?_) (fun e2=>?_)
  ·have e:=of_decide_eq_true e
   subst e;obtain⟨b',r,ew,rfl⟩:=afe as.is;cases ew;rw[show KhRooms.answer h (.found m r)=_ from jV hm hrs]at k;exact bQ (bx (aA (aj rfl) (aA (aj rfl) (aA (bI (j:=1) (aj rfl) aV (aU c2) rfl) bA))) ⟨a,z,h,cb,hg,m,r,rfl,Ak,no1 hrs,k⟩)
  refine cD (Ev.cG (dh (x:=p) (y:=11) (aW (aj rfl) c1 cc T.bN rfl) aV)) (fun e=>?_) (fun e3=>?_)
  ·have e:=of_decide_eq_true e
   subst e;obtain⟨b',r,t,ew,rfl⟩:=afg as.is;cases ew;rw[show KhRooms.answer h (.way m r t)=_ from jV hm hrs]at k;exact bQ (bx (aA (aj rfl) (aA (aj rfl) (aA (bI (j:=1) (aj rfl) aV (aU c2) rfl) (aA (bI (j:=2) (aj rfl) aV (aU c2) rfl) bA)))) ⟨a,z,h,cb,hg,m,r,t,rfl,Ak,(no2 hrs).1,k⟩)
  refine cD (Ev.cG (dh (x:=p) (y:=12) (aW (aj rfl) c1 cc T.bN rfl) aV)) (fun e=>?_) (fun e4=>?_)
  ·have e:=of_decide_eq_true e
   subst e;obtain⟨b',r,t,bk,ew,rfl⟩:=ac5 as.is;cases ew;have hbk:=hk1 m r t bk rfl;have ea:KhRooms.answer h (.small m r t bk)=KhRooms.ofBunch h m [r,t] fun(c:Kh.Bunch)=>(match h.small c r t (bk==1)with
    |none=>KhRooms.says (-3)
    |some l=>KhRooms.tells l):=if_neg (by omega)
   have hrs:([r,t].any fun r=>decide (h.rooms≤r))=false:=hrs;rw[ea,jV hm hrs]at k;exact bQ (bx (aA (aj rfl) (aA (aj rfl) (aA (bI (j:=1) (aj rfl) aV (aU c2) rfl) (aA (bI (j:=2) (aj rfl) aV (aU c2) rfl) (aA (bI (j:=3) (aj rfl) aV (aU c2) rfl) bA))))) ⟨a,z,h,cb,hg,m,r,t,bk,rfl,Ak,(no2 hrs).1,(no2 hrs).2,k⟩)
  refine cD (Ev.cG (dh (x:=p) (y:=13) (aW (aj rfl) c1 cc T.bN rfl) aV)) (fun e=>?_) (fun e5=>?_)
  ·have e:=of_decide_eq_true e
   subst e;obtain⟨b',r,t,ew,rfl⟩:=afh as.is;cases ew;rw[show KhRooms.answer h (.needed m r t)=_ from jV hm hrs]at k;exact bQ (bx (aA (aj rfl) (aA (aj rfl) (aA (bI (j:=1) (aj rfl) aV (aU c2) rfl) (aA (bI (j:=2) (aj rfl) aV (aU c2) rfl) bA)))) ⟨a,z,h,cb,hg,m,r,t,rfl,Ak,(no2 hrs).1,k⟩)
  refine cD (Ev.cG (dh (x:=p) (y:=14) (aW (aj rfl) c1 cc T.bN rfl) aV)) (fun e=>?_) (fun e6=>?_)
  ·have e:=of_decide_eq_true e
   subst e;obtain⟨b',r,t,ew,rfl⟩:=afi as.is;cases ew;rw[show KhRooms.answer h (.through m r t)=_ from jV hm hrs]at k;exact bQ (bx (aA (aj rfl) (aA (aj rfl) (aA (bI (j:=1) (aj rfl) aV (aU c2) rfl) (aA (bI (j:=2) (aj rfl) aV (aU c2) rfl) bA)))) ⟨a,z,h,cb,hg,m,r,t,rfl,Ak,(no2 hrs).1,k⟩)
  refine cD (Ev.cG (dh (x:=p) (y:=15) (aW (aj rfl) c1 cc T.bN rfl) aV)) (fun e=>?_) (fun e7=>?_)
  ·have e:=of_decide_eq_true e
   subst e;obtain⟨b',r,ew,rfl⟩:=afj as.is;cases ew;rw[show KhRooms.answer h (.traps m r)=_ from jV hm hrs]at k;exact bQ (bx (aA (aj rfl) (aA (aj rfl) (aA (bI (j:=1) (aj rfl) aV (aU c2) rfl) bA))) ⟨a,z,h,cb,hg,m,r,rfl,Ak,no1 hrs,k⟩)
  refine cD (Ev.cG (dh (x:=p) (y:=16) (aW (aj rfl) c1 cc T.bN rfl) aV)) (fun e=>?_) (fun e8=>?_)
  ·have e:=of_decide_eq_true e
   subst e;obtain⟨b',t,ew,rfl⟩:=afk as.is;cases ew;rw[show KhRooms.answer h (.shut m t)=_ from jV hm hrs]at k;exact bQ (bx (aA (aj rfl) (aA (aj rfl) (aA (bI (j:=1) (aj rfl) aV (aU c2) rfl) bA))) ⟨a,z,h,cb,hg,m,t,rfl,Ak,k⟩)
  ·have e1:=of_decide_eq_false e1
   have e2:=of_decide_eq_false e2;have e3:=of_decide_eq_false e3;have e4:=of_decide_eq_false e4;have e5:=of_decide_eq_false e5;have e6:=of_decide_eq_false e6;have e7:=of_decide_eq_false e7;have e8:=of_decide_eq_false e8;have lt:=as.lt;have e9:p=17:=by omega
   subst e9;obtain⟨b',ew,rfl⟩:=afl as.is;cases ew;rw[show KhRooms.answer h (.parts m)=_ from jV hm hrs]at k;exact bQ (bx (aA (aj rfl) (aA (aj rfl) bA)) ⟨a,z,h,cb,hg,m,rfl,Ak,k⟩)
theorem aez {h:Kh.House}{p:Nat}{w row:List Nat}{x:KhRooms.Call}(hp:9≤p) (lt:p<18) (e:Kd.jy p w row=some x):∃m rest f,w=m::rest∧((∀b r t k,x= .small b r t k→k≤1)→KhRooms.answer h x=KhRooms.ofBunch h m (rest.take 2) f):=by
 have hp':p=9∨p=10∨p=11∨p=12∨p=13∨p=14∨p=15∨p=16∨p=17:=by omega
 rcases hp' with rfl|rfl|rfl|rfl|rfl|rfl|rfl|rfl|rfl
 ·obtain⟨b,r,rfl,rfl⟩:=of9 e
  exact⟨b,[r],_,rfl,fun _=>rfl⟩
 ·obtain⟨b,r,rfl,rfl⟩:=afe e
  exact⟨b,[r],_,rfl,fun _=>rfl⟩
 ·obtain⟨b,r,t,rfl,rfl⟩:=afg e
  exact⟨b,[r,t],_,rfl,fun _=>rfl⟩
 ·obtain⟨b,r,t,k,rfl,rfl⟩:=ac5 e
  exact⟨b,[r,t,k],_,rfl,fun g=>if_neg (by have:=g b r t k rfl;omega)⟩
 ·obtain⟨b,r,t,rfl,rfl⟩:=afh e
  exact⟨b,[r,t],_,rfl,fun _=>rfl⟩
 ·obtain⟨b,r,t,rfl,rfl⟩:=afi e
  exact⟨b,[r,t],_,rfl,fun _=>rfl⟩
 ·obtain⟨b,r,rfl,rfl⟩:=afj e
  exact⟨b,[r],_,rfl,fun _=>rfl⟩
 ·obtain⟨b,t,rfl,rfl⟩:=afk e
  exact⟨b,[t],_,rfl,fun _=>rfl⟩
 ·obtain⟨b,rfl,rfl⟩:=afl e
  exact⟨b,[],_,rfl,fun _=>rfl⟩
theorem ai5 (xs:List V):Iz xs (some 1) (some 3)=(xs.drop 1).take 2:=by
 unfold Iz;rw[show(1:Int)=((1:Nat):Int)from rfl,show(3:Int)=((3:Nat):Int)from rfl,HT.Fy,HT.Fy];match xs with
 |[]=>rfl
 |[a]=>rfl
 |[a,b]=>rfl
 |a::b::c::r=>
  have h1:min 1 (a::b::c::r).length=1:=by simp only[List.length_cons];omega
  have h3:min 3 (a::b::c::r).length=3:=by simp only[List.length_cons];omega
  rw[h1,h3]
theorem VN {ta:TE}{σ:L2.St}{H:Hp}{v:V}(ha:Ev ta σ H v):Ev (rz (fun x y H Q=>y= .non∧Q (.bl (!decide (x= .non))) H) ta (tC .non)) σ H (.bl (!decide (v= .non))):=fun Q q=>ha _ ⟨rfl,q⟩
def M7 (A:Ad):Sp:=fun vs H Q _=>∃(a o:Addr) (z:lM) (h:Kh.House) (cb:List (Nat×List Nat)) (hg:List (Nat×Nat)) (H0:Hp) (p:Nat) (w row:List Nat) (x:KhRooms.Call) (n:Nat) (c:List (List Int)),vs=[.ref a, .ref o]∧bh A H a z h cb hg∧Kd.bV h cb hg∧CallAt A H0 H o p w row n∧Kd.Asks c p w row x∧9≤p∧
 Gives H Q (iV (HouseNeutral.told (KhRooms.answer h x)))
theorem M8 (T:Txt K mg A):bK P w K mg base cV 10 A.pC A.jP ["house","call"] (M7 A):=by
 refine T.jf.fn.ok zq (fun vs H Q E h=>?_) (fun cdv Ar outer s H vs Q E hr h=>?_)
 ·obtain⟨a,o,z,h,cb,hg,H0,p,w,row,x,n,c,rfl,_⟩:=h
  rfl
 ·obtain⟨a,o,z,h,cb,hg,H0,p,w,row,x,n,c,rfl,X,I,ca,as,hp9,k⟩:=h
  have cc:=T.qY.cl;refine⟨_,(au (bU (PW.pt (Ht (bM dW (aN (pv 1) rfl) (aY (v:= .int 12) rfl T.Jk ⟨_,rfl⟩) (bD _)) (Ay (bM adA (bG bw (aN (pv 1) rfl) aO (fun _ _=>rfl)) aO (bD _)))))
    (aB (aL (bL (ak (aY (v:= .int (-1)) rfl T.rF ⟨_,rfl⟩) ao))))
    bC)
   (au (bJ (i:=2) zq.nd rfl (by first|exact Or.inl rfl|exact Or.inr rfl) (aH (Vy T) (hr.mono (by decide)) rfl T.m8.mg T.m8.fn.kp (Xa T) .nil aP (ak (pv 0) (ak (bG bw (aN (pv 1) rfl) aO (fun _ _=>rfl)) (ak (Hw KR (aN (pv 1) rfl) (xQ aO) (xQ aO)) ao)))))
   (au (bU (bM agF (pv 2) BW (bD _))
    (aB (aL (pv 2)))
    bC)
   (aB (aL (aH (Ip T) (hr.mono (by decide)) rfl T.gh.mg T.gh.fn.kp (J3 T) .nil aP (ak (pv 0) (ak (pv 1) ao)))))))),?_⟩
  obtain⟨dx,lw,lr,c1,c2,c3,c4⟩:=id ca;obtain⟨m,rest,f,rfl,ea⟩:=aez (h:=h) hp9 as.lt as.is;have b3:∃b:Bool,Tv (aeN (Zr (rz rEq (Yo K (Er 1) "number") (tC (.int 12)))) (Zr (rz (za fun i j=> .bl (decide (j<i))) (rz (rIx K) (Yo K (Er 1) "wholes") (tC (.int 3))) (tC (.int 1))))) [some (.ref a),some (.ref o),none] H b∧(b=true→KhRooms.answer h x=KhRooms.says (-1))∧(b=false→∀b r t k,x= .small b r t k→k≤1):=by
   by_cases e:p=12
   ·subst e
    obtain⟨b',r,t,bk,ew,rfl⟩:=ac5 as.is;cases ew;refine⟨decide (1<bk),fun Q q=>Tv.and (c:=true) (d:=decide (1<bk)) (fun Q q=>Ev.cG (dh (x:=12) (y:=12) (aW (aj rfl) c1 cc T.bN rfl) aV) _ q) (fun _=>Ev.cG (aaF (y:=1) (bI (j:=3) (v:= .int (bk:Nat)) (aW (aj rfl) c1 cc T.ju rfl) aV (aU c2) rfl) aV)) _ q,fun g=>if_pos (of_decide_eq_true g),fun g b r t k e=>?_⟩;cases e;have:=of_decide_eq_false g;omega
   ·refine⟨false,fun Q q=>Tv.and (c:=false) (d:=false) (fun Q q=>Ev.cG (dh (x:=p) (y:=12) (aW (aj rfl) c1 cc T.bN rfl) aV) _ (by rw[decide_eq_false e];exact q)) (fun z=>by cases z) _ q,fun g=>(by cases g),fun _ b r t k ex=>?_⟩
    exfalso;subst ex;have:=as.is;unfold Kd.jy at this
    split at this<;>first|exact e rfl|(cases this;done)
  obtain⟨b,tb,kt,kf⟩:=b3;refine cD tb (fun e=>?_) (fun e=>?_)
  ·rw[kt e]at k
   exact Em aV k
  ·have hk1:=kf e
   have ea:=ea hk1;refine dF (pQ (cH (aj rfl) (cH (bI (j:=0) (v:= .int (m:Nat)) (aW (aj rfl) c1 cc T.ju rfl) aV (aU c2) rfl) (cu (aW (aj rfl) c1 cc T.ju rfl _ (aV _ ⟨_,rfl,aV _ ⟨_,rfl,lw,_,rfl,aU c2,fun ls nls=>?_⟩⟩))))));rw[ai5];have es:((nV (m::rest)).drop 1).take 2=nV (rest.take 2):=by
    show(nV rest).take 2=List.map _ (rest.take 2);rw[List.map_take]
   rw[es];have s1:Same H (upd H ls (.lst (nV (rest.take 2)))):=aZ nls;refine⟨a,ls,z,h,cb,hg,m,rest.take 2,rfl,X.same s1,aq,by rw[List.length_take];omega,fun g H2 l2 s2 n2 h2=>?_,fun g g2 H2 l2 s2 n2 h2=>?_,fun g g2 H2 s2=>?_⟩
   ·have er:KhRooms.answer h x=KhRooms.says (-1):=by
     rw[ea];unfold KhRooms.ofBunch KhRooms.bunch;rw[if_neg g]
    rw[er]at k;refine cD (b:=true) (Ev.cG (VN (v:= .ref l2) (aj rfl))) (fun _=>?_) (fun e=>by cases e);exact jx (v:= .ref l2) (aj rfl) (k H2 l2 (s1.trans s2) (s1.free n2) h2)
   ·have er:KhRooms.answer h x=KhRooms.says (-4):=by
     rw[ea];unfold KhRooms.ofBunch KhRooms.bunch;rw[if_pos g];show(if (rest.take 2).any (fun(r:Nat)=>decide (h.rooms≤r))=true then _ else _)=_;rw[if_pos g2]
    rw[er]at k;refine cD (b:=true) (Ev.cG (VN (v:= .ref l2) (aj rfl))) (fun _=>?_) (fun e=>by cases e);exact jx (v:= .ref l2) (aj rfl) (k H2 l2 (s1.trans s2) (s1.free n2) h2)
   ·refine cD (b:=false) (Ev.cG (VN (v:= .non) (aj rfl))) (fun e=>by cases e) (fun _=>?_)
    have s12:=s1.trans s2;exact bQ (bx (aA (aj rfl) (aA (aj rfl) bA)) ⟨a,o,z,h,cb,hg,H0,p,m,rest,row,x,n,c,rfl,⟨X.same s12,I,g⟩,ca.same s12,as,hp9,g2,hk1,k.less s12⟩)
end
end Kq
end
section
namespace Kq
open PySem PySem.Spec PyProof.Rows L2 Hk Hs
theorem ai6 {ta tb:TE}{σ:L2.St}{H:Hp}{x y:Nat}(ha:Ev ta σ H (.int (x:Int))) (hb:Ev tb σ H (.int (y:Int))):Ev (rz (za fun i j=> .bl (decide (i≤j))) ta tb) σ H (.bl (decide (x≤y))):=
 fun Q q=>ha _ (hb _ ⟨_,_,rfl,rfl,by
  show Q (V.bl (decide ((x:Int)≤(y:Int)))) H;rw[iLe];exact q⟩)
section
variable {P:Program}{w:World}{K:PySem.W.Frag}{mg:Str→Option Value}{base:Heap}{A:Ad}
def RD (A:Ad):Sp:=fun vs H Q _=>∃(d o dd:Addr) (s:KhRooms.State) (T:List Addr) (H0:Hp) (p:Nat) (w row:List Nat) (x:KhRooms.Call) (n:Nat) (c:List (List Int)),vs=[.ref d, .ref o]∧zM A H d dd s T∧CallAt A H0 H o p w row n∧Kd.Asks c p w row x∧
 ∀H' l T',zM A H' d dd (KhRooms.step s x).1 T'→(∀t∈T',t∈T∨H t=none)→(∀b o,H b=some o→b∉T→H' b=some o)→H l=none→H' l=some (.lst (iV (HouseNeutral.told (KhRooms.step s x).2)))→Q (.ref l) H'
theorem RG (T:Txt K mg A):bK P w K mg base cV 11 A.tZ A.mV ["desk","call"] (RD A):=by
 refine T.lH.fn.ok QZ (fun vs H Q E h=>?_) (fun cdv Ar outer s H vs Q E hr h=>?_)
 ·obtain⟨d,o,dd,st,T',H0,p,w,row,x,n,c,rfl,_⟩:=h
  rfl
 ·obtain⟨d,o,dd,st,T1,H0,p,w,row,x,n,c,rfl,S,hc,as,k⟩:=h
  have cc:=T.qY.cl;have cd:=T.DX.cl;refine⟨_,(au (bU (bM dW (aN (pv 1) rfl) (aY (v:= .int 0) rfl T.aao ⟨_,rfl⟩) (bD _))
    (aB (aL (aH (Pq T) (hr.mono (by decide)) rfl T.jH.mg T.jH.fn.kp (Rg T) .nil aP (ak (pv 0) (ak (aN (pv 1) rfl) ao)))))
    bC)
   (au (bU (bM Zq (aN (pv 0) rfl) BW (bD _))
    (aB (aL (bL (ak (aY (v:= .int (-5)) rfl T.acz ⟨_,rfl⟩) ao))))
    bC)
   (au (bU (bM adz (aN (pv 1) rfl) (aY (v:= .int 8) rfl T.W0 ⟨_,rfl⟩) (bD _))
    (aB (aL (aH (Kr T) (hr.mono (by decide)) rfl T.g8.mg T.g8.fn.kp (Mz T) .nil aP (ak (aN (pv 0) rfl) (ak (pv 1) ao)))))
    bC)
   (aB (aL (aH (M8 T) (hr.mono (by decide)) rfl T.jf.mg T.jf.fn.kp (O3 T) .nil aP (ak (aN (pv 0) rfl) (ak (pv 1) ao)))))))),?_⟩
  obtain⟨dx,lw,lr,c1,c2,c3,c4⟩:=hc;obtain⟨dT,v,hd⟩:=S.head;refine cD (Ev.cG (dh (x:=p) (y:=0) (aW (aj rfl) c1 cc T.bN rfl) aV)) (fun e=>?_) (fun e=>?_)
  ·have e:=of_decide_eq_true e
   subst e;obtain⟨n1,d1,t1,p1,q1,r1,k1,rfl,rfl⟩:=ah1 as.is;refine bQ (bx (aA (aj rfl) (aA (aW (aj rfl) c1 cc T.ju rfl) bA)) ⟨d,dd,lw,v,⟨n1,d1,t1,p1,q1,r1⟩,k1,rfl,hd,c2,fun ok H' a z l X hd' kp fr hl hl'=>?_,fun ok H' l s hl hl'=>?_⟩)
   ·have es:KhRooms.step st (.open_ n1 d1 t1 p1 q1 r1 k1)=(some ⟨⟨n1,d1,t1,p1,q1,r1⟩,[],[],[],k1,[]⟩,KhRooms.says 0):=if_pos ok
    rw[es]at k;refine k H' l (d::Ts z) ⟨a,z,[],[],hd',X,Kd.bV.new ok.1 ok.2.1 ok.2.2,rfl⟩ (fun t mt=>?_) (fun b u eb nb=>kp b u eb fun q=>nb (by rw[q];exact dT)) hl hl';rcases List.mem_cons.mp mt with q|q
    ·exact .inl (by rw[q];exact dT)
    ·exact .inr (fr t q)
   ·have es:KhRooms.step st (.open_ n1 d1 t1 p1 q1 r1 k1)=(st,KhRooms.says (-1)):=if_neg ok
    rw[es]at k;exact k H' l T1 (S.same s) (fun t mt=> .inl mt) (fun b u eb _=>s b u eb) hl hl'
  ·have e:=of_decide_eq_false e
   have no:=ac6 as.lt e as.is;cases st with
   |none=>
    rw[VF no]at k;refine cD (b:=true) (Ev.cG (Ij (aW (aj rfl) S.1 cd T.ni rfl))) (fun _=>?_) (fun e=>by cases e);exact pP aV fun l hl=>k _ l T1 (S.same (aZ hl)) (fun t mt=> .inl mt) (fun b u eb _=>aZ hl _ _ eb) hl aq
   |some h=>
    obtain⟨a,z,cb,hg,h1,X,I,eT⟩:=S;rw[VG h no]at k;refine cD (b:=false) (Ev.cG (Ij (aW (aj rfl) h1 cd T.ni rfl))) (fun e=>by cases e) (fun _=>?_);have dz:d∉Ts z:=by
     intro m;have:∀{q:Addr}{u:HO},H q=some u→(∀C dx fs,u≠ .ins C dx fs)→d≠q:=fun e n=>eX h1 e fun z=>n _ _ _ z.symm
     unfold Ts at m;simp only[List.mem_cons,List.not_mem_nil,or_false]at m;rcases m with m|m|m|m|m
     ·exact this X.iW (fun _ _ _ e=>nomatch e) m
     ·exact this X.jw (fun _ _ _ e=>nomatch e) m
     ·exact this X.gA (fun _ _ _ e=>nomatch e) m
     ·exact this X.fL (fun _ _ _ e=>nomatch e) m
     ·exact this X.hang (fun _ _ _ e=>nomatch e) m
    refine cD (Ev.cG (ai6 (x:=p) (y:=8) (aW (aj rfl) c1 cc T.bN rfl) aV)) (fun e8=>?_) (fun e8=>?_)
    ·refine bQ (bx (aA (aW (aj rfl) h1 cd T.ni rfl) (aA (aj rfl) bA)) ⟨a,o,z,h,cb,hg,H0,p,w,row,x,n,c,rfl,X,I,⟨dx,lw,lr,c1,c2,c3,c4⟩,as,e,of_decide_eq_true e8,fun H' l z' Xi hg' X' I' ez kp hl hl'=>?_⟩)
     refine k H' l T1 ⟨a,z',Xi,hg',kp _ _ h1 dz,X',I',by rw[ez];exact eT⟩ (fun t mt=> .inl mt) (fun b u eb nb=>kp b u eb fun m=>nb (by rw[eT];exact List.mem_cons_of_mem _ m)) hl hl'
    ·have e8:=of_decide_eq_false e8
     have em:KhRooms.made h x=none:=by
      have hp':p=9∨p=10∨p=11∨p=12∨p=13∨p=14∨p=15∨p=16∨p=17:=by have:=as.lt;omega
      have is:=as.is;rcases hp' with rfl|rfl|rfl|rfl|rfl|rfl|rfl|rfl|rfl
      ·obtain⟨_,_,_,rfl⟩:=of9 is;rfl
      ·obtain⟨_,_,_,rfl⟩:=afe is;rfl
      ·obtain⟨_,_,_,_,rfl⟩:=afg is;rfl
      ·obtain⟨_,_,_,_,_,rfl⟩:=ac5 is;rfl
      ·obtain⟨_,_,_,_,rfl⟩:=afh is;rfl
      ·obtain⟨_,_,_,_,rfl⟩:=afi is;rfl
      ·obtain⟨_,_,_,rfl⟩:=afj is;rfl
      ·obtain⟨_,_,_,rfl⟩:=afk is;rfl
      ·obtain⟨_,_,rfl⟩:=afl is;rfl
     have eh:yZ h x=(h,KhRooms.answer h x):=by unfold yZ;rw[em]
     rw[eh]at k;refine bQ (bx (aA (aW (aj rfl) h1 cd T.ni rfl) (aA (aj rfl) bA)) ⟨a,o,z,h,cb,hg,H0,p,w,row,x,n,c,rfl,X,I,⟨dx,lw,lr,c1,c2,c3,c4⟩,as,by omega,fun H' l s' nl hl=>?_⟩);exact k H' l T1 ⟨a,z,cb,hg,s' _ _ h1,X.same s',I,eT⟩ (fun t mt=> .inl mt) (fun b u eb _=>s' _ _ eb) nl hl
end
end Kq
end
section
namespace Kq
open PySem PySem.Spec PyProof.Rows L2 Hk
section
variable {P:Program}{w:World}{K:PySem.W.Frag}{mg:Str→Option Value}{base:Heap}{A:Ad}
theorem Oj {A:Ad}{H:Hp}{d dd:Addr}{s:KhRooms.State}{T:List Addr}(S:zM A H d dd s T) (x:KhRooms.Call):(HouseNeutral.told (KhRooms.step s x).2).length≤60:=by
 cases ho:isOpen x with
 |true=>
  cases x with
  |open_ n d t p q r k=>
   show(HouseNeutral.told (if _ then _ else _:KhRooms.State×KhRooms.Answer).2).length≤60
   split
   ·show 1≤60;decide
   ·show 1≤60;decide
  |_=>cases ho
 |false=>
  cases s with
  |none=>
   rw[VF ho];decide
  |some h=>
   rw[VG h ho];obtain⟨cb,hg,I⟩:=S.inv;show(HouseNeutral.told (yZ h x).2).length≤60;unfold yZ;cases e:KhRooms.made h x with
   |none=>exact Kd.ab0 I x
   |some r=>
    show(HouseNeutral.told r.2).length≤60;have:r.2.nums=[]:=by
     unfold KhRooms.made at e
     split at e
     ·split at e
      ·cases e;rfl
      ·split at e<;>(cases e;rfl)
     ·split at e
      ·cases e;rfl
      ·split at e<;>(cases e;rfl)
     ·split at e
      ·split at e
       ·cases e;rfl
       ·split at e<;>(cases e;rfl)
      ·cases e;rfl
     ·split at e
      ·cases e;rfl
      ·split at e<;>(cases e;rfl)
     ·split at e
      ·cases e;rfl
      ·split at e<;>(cases e;rfl)
     ·split at e
      ·cases e;rfl
      ·split at e<;>(cases e;rfl)
     ·cases e
    unfold HouseNeutral.told;rw[this];show 1≤60;decide
def Hj (K:PySem.W.Frag):Sp:=fun vs H Q _=>∃(a:Addr) (ns:List Int),vs=[.ref a]∧dR K H a (ns.map V.int)∧PyWqanec.answers_asked ns=true∧∀(H':Hp) (p:Addr),H' p=some (.lst ((PyWqanec.answers ns).map V.int))→Q (.ref p) H'
theorem ac7 (T:Txt K mg A):bK P w K mg base cV 12 A.rE A.rM ["calls"] (Hj K):=by
 refine T.uP.fn.ok vA (fun vs H Q E h=>?_) (fun cdv Ar outer s H vs Q E hr h=>?_)
 ·obtain⟨a,ns,rfl,_⟩:=h
  rfl
 ·obtain⟨a,ns,rfl,hS,has,k⟩:=h
  obtain⟨cs,q1,q2,q3,q4,q5,q6⟩:=Kd.abY has;rw[q6]at k;subst q2;refine⟨_,(au (bJ (i:=1) vA.nd rfl (by first|exact Or.inl rfl|exact Or.inr rfl) (afs T.DX.mkr (Xh T) (hr.mono (by decide)) rfl T.DX.mg (aav T) .nil aP))
   (au (bJ (i:=2) vA.nd rfl (by first|exact Or.inl rfl|exact Or.inr rfl) (bL ao))
   (au (rU PassesOwn.never rfl (iI (aH (Vm T) (hr.mono (by decide)) rfl T.mY.mg T.mY.fn.kp (W7 T) .nil aP (ak (pv 0) ao))) (cO (i:=3) vA.nd rfl (by first|exact Or.inl rfl|exact Or.inr rfl))
    (au (Tp (bJ (i:=4) vA.nd rfl (by first|exact Or.inl rfl|exact Or.inr rfl) (aH (RG T) (hr.mono (by decide)) rfl T.lH.mg T.lH.fn.kp (U8 T) .nil aP (ak (pv 1) (ak (pv 3) ao)))))
    (au (iH (rA PySem.F.plainAttrs_list PySem.F.slot_list_append PySem.F.type_list_append fW (pv 2) (ak (bH cA (by rfl) T.fK dG (ak (pv 4) ao)) ao)))
    (aB (iH (rA PySem.F.plainAttrs_list PySem.F.slot_list_extend PySem.F.type_list_extend Tc (pv 2) (ak (pv 4) ao)))))))
   (aB (aL (pv 2)))))),?_⟩
  -- desk=Desk()
  refine dF (vN fun d dd nd ndd ne=>⟨d,dd,rfl,aq,rfl,?_⟩);have s0:=o7 (C:=A.gw) (fs:=jL .non) nd ndd;have d0:upd (upd (upd H dd (.own d)) d (.ins A.gw dd [])) d (.ins A.gw dd (jL .non)) d=some (.ins A.gw dd (jL .non)):=aq;generalize upd (upd (upd H dd (.own d)) d (.ins A.gw dd [])) d (.ins A.gw dd (jL .non))=H0 at s0 d0⊢
  -- given=[]
  refine dF ⟨Nat.zero_le _,fun g ng=>?_⟩;have s1:Same H0 (upd H0 g (.lst [])):=aZ ng;have g1:upd H0 g (.lst []) g=some (.lst []):=aq;have dg:d≠g:=aQ d0 ng;generalize upd H0 g (.lst [])=H1 at s1 g1⊢;have d1:=s1 _ _ d0
  -- for call in read_calls(calls)
  refine qG (bx (aA (aj rfl) bA) ⟨a,cs,rfl,(s0.trans s1).seq hS,q4,fun c mc=>Kd.ahc (q3 c mc) (q5 c mc),fun H2 l os s2 nl hl ho hc=>⟨l,rfl,⟨_,aU hl⟩,?_⟩⟩);have d2:=s2 _ _ d1;have g2:=s2 _ _ g1;have ld:l≠d:=fun q=>by rw[q,d1]at nl;cases nl
  have lg:l≠g:=fun q=>by rw[q,g1]at nl;cases nl
  refine NK (K:=K) (a:=l) (xs:=rV os) (fun i σ H'=>∃v3 v4 T,σ=[some (.ref a),some (.ref d),some (.ref g),v3,v4]∧(∀od u,zM A (upd H' g (.cM od u)) d dd (Kd.after HouseNeutral.start (cs.take i)) T)∧(∀t∈T,t=d∨H2 t=none)∧
    H' g=some (.lst (iV (PyFlat.told (PyFlat.played HouseNeutral.step HouseNeutral.start (cs.take i)))))∧(PyFlat.told (PyFlat.played HouseNeutral.step HouseNeutral.start (cs.take i))).length≤61*i∧∀b o,H2 b=some o→b≠d→b≠g→H' b=some o) ?_ ?_ ?_ ?_
  ·refine⟨none,none,[d],rfl,fun od u=>⟨?_,rfl⟩,fun t mt=> .inl (List.mem_singleton.mp mt),g2,Nat.le_refl _,fun b o e _ _=>e⟩
   rw[aJ dg];exact d2
  ·rintro i σ H' hi ⟨v3,v4,T1,rfl,hSt,hT,hg,hlen,hkp⟩
   exact aU (hkp _ _ hl ld lg)
  ·rintro i y σ H' hi ⟨v3,v4,T1,rfl,hSt,hT,hg,hlen,hkp⟩
   obtain⟨o,hoi,rfl⟩:=vm hi;obtain⟨c,hci⟩:=j5 ho hoi;obtain⟨p,w,row,x,n,as,hca⟩:=hc i o c hoi hci;have akz:i<400:=by
    have:=(List.getElem?_eq_some_iff.mp hci).1;omega
   -- answer=answer_call(desk,call),what is given so far locked
   refine qG ⟨g,_,hg,trivial,fun od=>?_⟩;have hca':CallAt A H1 (upd H' g (.cM od (.lst (iV (PyFlat.told (PyFlat.played HouseNeutral.step HouseNeutral.start (cs.take i))))))) o p w row n:=by
    obtain⟨dx,lw,lr,c1,c2,c3,c4,c5,c6⟩:=hca;have nn:∀{b:Addr},H1 b=none→b≠d∧b≠g:=fun e=>⟨(aQ d1 e).symm,(aQ g1 e).symm⟩
    refine⟨dx,lw,lr,?_,?_,?_,c4,c5,c6⟩
    ·rw[aJ (nn c4).2];exact hkp _ _ c1 (nn c4).1 (nn c4).2
    ·rw[aJ (nn c5).2];exact hkp _ _ c2 (nn c5).1 (nn c5).2
    ·rw[aJ (nn c6).2];exact hkp _ _ c3 (nn c6).1 (nn c6).2
   have St:=hSt od (.lst (iV (PyFlat.told (PyFlat.played HouseNeutral.step HouseNeutral.start (cs.take i)))));have hgf:upd H' g (.cM od (.lst (iV (PyFlat.told (PyFlat.played HouseNeutral.step HouseNeutral.start (cs.take i)))))) g=some (.cM od (.lst (iV (PyFlat.told (PyFlat.played HouseNeutral.step HouseNeutral.start (cs.take i)))))):=aq;have hsl:=Oj St x;refine bx (aA (aj rfl) (aA (aj rfl) bA)) ⟨d,o,dd,_,T1,H1,p,w,row,x,n,c,rfl,St,hca',as,fun H3 l3 T3 St3 hT3 kp3 nl3 hl3=>?_⟩;have gT:g∉T1:=fun m=>by
    rcases hT g m with q|q
    ·exact dg q.symm
    ·rw[g2]at q
     cases q
   have g3:=kp3 _ _ hgf gT;refine⟨g3,?_⟩;have l3g:l3≠g:=fun q=>by rw[q,g3]at hl3;cases hl3
   have hl4:upd H3 g (.lst (iV (PyFlat.told (PyFlat.played HouseNeutral.step HouseNeutral.start (cs.take i))))) l3=some (.lst (iV (HouseNeutral.told (KhRooms.step (Kd.after HouseNeutral.start (cs.take i)) x).2))):=by
    rw[aJ l3g];exact hl3
   -- given.append(len(answer));given.extend(answer)
   refine Ef (aj rfl) (dH (aj rfl) (aU hl4)) aq (cB (by rw[List.length_map];omega)) ?_;rw[cU];refine⟨_,rfl, .inl ⟨rfl,_,dR.of aq⟩,_,rfl,g,l3,_,_,rfl,rfl,aq,(aJ l3g).trans hl3,?_,?_⟩
   ·rw[List.length_append,List.length_map,List.length_map,List.length_singleton]
    exact Nat.le_of_lt (cB (by omega))
   ·rw[cU]
    have est:HouseNeutral.step (Kd.after HouseNeutral.start (cs.take i)) c=((KhRooms.step (Kd.after HouseNeutral.start (cs.take i)) x).1,HouseNeutral.told (KhRooms.step (Kd.after HouseNeutral.start (cs.take i)) x).2):=by
     unfold HouseNeutral.step;rw[as.of]
    refine⟨_,_,T3,rfl,fun od' u'=>?_,fun t mt=>?_,?_,?_,fun b u e nbd nbg=>?_⟩
    ·rw[cU,Kd.take_snoc hci,Kd.abZ,est]
     exact St3.away g3 cC
    ·rcases hT3 t mt with q|q
     ·exact hT t q
     ·by_cases td:t=d
      ·exact .inl td
      ·right
       cases z:H2 t with
       |none=>rfl
       |some u=>
        by_cases tg:t=g
        ·rw[tg,aq]at q
         cases q
        ·rw[aJ tg,hkp _ _ z td tg]at q
         cases q
    ·rw[aq,Kd.take_snoc hci,Kd.CG,est,Kd.Ue]
     show some (HO.lst (iV _++[V.int _]++iV _))=some (.lst (iV (_++(_::_))));rw[show iV (_++(_::_))=iV _++iV (_::_)from List.map_append ..,List.append_assoc,List.length_map];rfl
    ·rw[Kd.take_snoc hci,Kd.CG,est,Kd.Ue,List.length_append,List.length_cons]
     show _+((HouseNeutral.told (KhRooms.step (Kd.after HouseNeutral.start (cs.take i)) x).2).length+1)≤_;omega
    ·rw[aJ nbg]
     have:b∉T1:=fun m=>by
      rcases hT b m with q|q
      ·exact nbd q
      ·rw[e]at q
       cases q
     exact kp3 b u (by rw[aJ nbg];exact hkp b u e nbd nbg) this
  ·rintro σ H' ⟨v3,v4,T1,rfl,hSt,hT,hg,hlen,hkp⟩
   rw[List.length_map,ho,List.take_length]at hg;exact⟨_,rfl,k H' g hg⟩
end
end Kq
end
section
namespace Kq
open PySem PySem.Spec PyProof.Rows L2 Hk
def d8 (K:PySem.W.Frag) (x:Str) (st:Stmt):Prop:=∃(f:Addr) (oc:Value) (od:Option Addr) (kV doc pm:Value) (an:Option Addr) (cdv ct:Value) (osl:Array (Option Value)),PySem.W.nsIn K mainGlobals x=some (some (.ref f))∧
 K.lookup f=some ⟨oc,od, .func (PySem.W.fnOf x x (vp st) (rZ st) (aF st) .none kV doc pm an cdv ct),osl⟩∧PySem.W.codeIn K cdv x=true∧PySem.W.keepIn K (.ref f)=true
def KlF (K:PySem.W.Frag) (x qual:Str) (st:Stmt) (attrs:List Str):Prop:=∃(C f:Addr) (oc:Value) (od:Option Addr) (kV doc pm:Value) (an:Option Addr) (cdv ct:Value) (osl:Array (Option Value)),PySem.W.nsIn K mainGlobals x=some (some (.ref C))∧
 PySem.W.findIn K (.ref C) "__init__"=some (some (.ref f))∧PySem.W.isFn K (.ref f)=true∧K.lookup f=some ⟨oc,od, .func (PySem.W.fnOf "__init__" qual (vp st) (rZ st) (aF st) .none kV doc pm an cdv ct),osl⟩∧PySem.W.codeIn K cdv qual=true∧PySem.W.keepIn K (.ref f)=true∧
 PySem.W.plainGet K C Str.empty=true∧PySem.W.hasDictIn K C=true∧PySem.W.plainOver K C=true∧PySem.W.findIn K (.ref C) "__setattr__"=some (some (.builtin "object.__setattr__"))∧PySem.W.makesIn K C=true∧PySem.W.keepIn K (.ref C)=true∧∀a∈attrs,PySem.W.findIn K (.ref C) a=some none
def nU (K:PySem.W.Frag) (x:Str) (i:Int):Prop:=∃t,PySem.W.nsIn K mainGlobals x=some (some (.int i t))
def VP (K:PySem.W.Frag) (x:Str):Prop:=PySem.W.nsIn K mainGlobals x=some none
theorem fnF {K:PySem.W.Frag}{x:Str}{st:Stmt}{f:Addr}{oc:Value}{od:Option Addr}{kV doc pm:Value}{an:Option Addr}{cdv ct:Value}{osl:Array (Option Value)}(a:PySem.W.nsIn K mainGlobals x=some (some (.ref f)))
  (l:K.lookup f=some ⟨oc,od, .func (PySem.W.fnOf x x (vp st) (rZ st) (aF st) .none kV doc pm an cdv ct),osl⟩) (c:PySem.W.codeIn K cdv x=true) (k:PySem.W.keepIn K (.ref f)=true):d8 K x st:=⟨f,oc,od,kV,doc,pm,an,cdv,ct,osl,a,l,c,k⟩
def ah2 (p:Str→Prop):List Str→Prop
 |[]=>True
 |a::l=>p a∧ah2 p l
theorem afm {p:Str→Prop}:∀{l:List Str},ah2 p l→∀a∈l,p a
 |[],_,a,m=>by cases m
 |b::l,h,a,m=>by
  rcases List.mem_cons.mp m with e|m
  ·rw[e];exact h.1
  ·exact afm h.2 a m
theorem klF {K:PySem.W.Frag}{x qual:Str}{st:Stmt}{attrs:List Str}{C f:Addr}{oc:Value}{od:Option Addr}{kV doc pm:Value}{an:Option Addr}{cdv ct:Value}{osl:Array (Option Value)}(a:PySem.W.nsIn K mainGlobals x=some (some (.ref C)))
  (b:PySem.W.findIn K (.ref C) "__init__"=some (some (.ref f))) (i:PySem.W.isFn K (.ref f)=true) (l:K.lookup f=some ⟨oc,od, .func (PySem.W.fnOf "__init__" qual (vp st) (rZ st) (aF st) .none kV doc pm an cdv ct),osl⟩) (c:PySem.W.codeIn K cdv qual=true) (k:PySem.W.keepIn K (.ref f)=true)
  (pg:PySem.W.plainGet K C Str.empty=true) (hd:PySem.W.hasDictIn K C=true) (po:PySem.W.plainOver K C=true) (sa:PySem.W.findIn K (.ref C) "__setattr__"=some (some (.builtin "object.__setattr__"))) (mk:PySem.W.makesIn K C=true) (kc:PySem.W.keepIn K (.ref C)=true)
  (na:ah2 (fun a=>PySem.W.findIn K (.ref C) a=some none) attrs):KlF K x qual st attrs:=⟨C,f,oc,od,kV,doc,pm,an,cdv,ct,osl,a,b,i,l,c,k,pg,hd,po,sa,mk,kc,afm na⟩
theorem coF {K:PySem.W.Frag}{x:Str}{i:Int}{t:Tok}(a:PySem.W.nsIn K mainGlobals x=some (some (.int i t))):nU K x i:=⟨t,a⟩
def TuF (K:PySem.W.Frag) (x:Str) (ns:List Int):Prop:=∃a:Addr,PySem.W.nsIn K mainGlobals x=some (some (.ref a))∧∀H,Sv K H a (ns.map V.int)
theorem tuF {K:PySem.W.Frag}{x:Str}{ns:List Int}{a:Addr}{d:Option Addr}{its:Array Value}{n:Nat}{sl:Array (Option Value)}(e:PySem.W.nsIn K mainGlobals x=some (some (.ref a))) (l:K.lookup a=some ⟨.type "tuple",d, .seq its n,sl⟩) (v:Vals (ns.map V.int) its.toList) (z:its.size≤sizeLine):TuF K x ns:=
 ⟨a,e,fun H=> .inr ⟨_,_,_,l,rfl,rfl,z,v⟩⟩
theorem eF {K:PySem.W.Frag}{h:Heap}{mg:Str→Option Value}{x:Str}{st:Stmt}(X:K.In h) (G:h.Ns mainGlobals mg):d8 K x st→∃f fd,Def K mg x st f fd:=fun⟨f,oc,od,kV,doc,pm,an,cdv,ct,osl,a,l,c,k⟩=>⟨f,_,ae2 l c k,PySem.W.mg_of X G a⟩
theorem kdm {K:PySem.W.Frag}{h:Heap}{mg:Str→Option Value}{x qual:Str}{st:Stmt}{attrs:List Str}(X:K.In h) (G:h.Ns mainGlobals mg):KlF K x qual st attrs→∃C f fd,K9 K "__init__" qual st f fd∧Kls K mg x C f∧∀a∈attrs,cI K C a:=fun⟨C,f,oc,od,kV,doc,pm,an,cdv,ct,osl,a,b,i,l,c,k,pg,hd,po,sa,mk,kc,na⟩=>⟨C,f,_,ae2 l c k,⟨⟨pg,hd,po,sa⟩,⟨mk,b,i,kc⟩,PySem.W.mg_of X G a⟩,na⟩
theorem ai7 {K:PySem.W.Frag}{h:Heap}{mg:Str→Option Value}{fa:Addr}(X:K.In h) (G:h.Ns mainGlobals mg) (hfa:mg "answers"=some (.ref fa))
  (aaW:KlF K "Make" "Make.__init__" CT ["chambers","depths","step","pin","kinds","run"])
  (aeA:KlF K "Key" "Key.__init__" Gv ["grooves","cuts"])
  (Hl:KlF K "Cylinder" "Cylinder.__init__" uE ["wards","depth_sets"])
  (agj:d8 K "within" Ol)
  (aeB:d8 K "is_make" JG)
  (aeC:d8 K "has_bit" JH)
  (aaX:d8 K "depths_in" wM)
  (RJ:d8 K "is_pin_apart" qI)
  (RK:d8 K "is_depth_set" vV)
  (agk:d8 K "is_key" HJ)
  (VR:d8 K "is_cylinder" sI)
  (ah3:d8 K "turns" Mh)
  (V0:KlF K "House" "House.__init__" zY ["make","rooms","told_keys","cylinders","doors","sides","hanging"])
  (aaY:KlF K "Desk" "Desk.__init__" CV ["house"])
  (V1:d8 K "start_house" yj)
  (aeD:d8 K "add_key" JL)
  (RL:d8 K "add_cylinder" vX)
  (XF:d8 K "tells_side" zZ)
  (aeE:d8 K "is_room" JM)
  (V2:d8 K "is_told_key" yq)
  (aeF:d8 K "is_side" JN)
  (M9:d8 K "lacks_cylinder" sJ)
  (ac8:d8 K "add_door" Gw)
  (ac9:d8 K "fit_side" Gx)
  (ada:d8 K "hang_key" Gy)
  (XH:d8 K "unhang_key" z6)
  (aaZ:d8 K "count_all" CW)
  (Nb:d8 K "keys_that_turn" nA)
  (RM:d8 K "keys_of_side" vY)
  (aa0:KlF K "Call" "Call.__init__" CZ ["number","wholes","row","behind"])
  (aa1:d8 K "read_call" Dc)
  (XJ:d8 K "read_calls" z7)
  (Ks:KlF K "Passage" "Passage.__init__" vZ ["side","behind","is_free","turners"])
  (aeG:d8 K "bits_of" Dd)
  (XM:d8 K "passage_of" z8)
  (Ir:d8 K "passages_by_room" iJ)
  (agl:d8 K "passes" Ot)
  (RN:d8 K "without_side" qJ)
  (V3:d8 K "first_walks" yr)
  (aa2:d8 K "does_lead" Df)
  (RP:d8 K "rooms_led_to" wg)
  (Ho:d8 K "rooms_not_leading" jK)
  (En:d8 K "sides_of_every_walk" iR)
  (PX:d8 K "traps_in_room" uH)
  (XQ:d8 K "traps_from" z9)
  (BP:d8 K "least_rooms_of_parts" eZ)
  (aeH:d8 K "keys_in" Dg)
  (Nf:d8 K "place_in_order" sU)
  (Iu:d8 K "bunches_in_order" jY)
  (Ng:d8 K "leads_as_asked" sV)
  (Nh:d8 K "smallest_bunch" sW)
  (V4:d8 K "needed_keys" sX)
  (RQ:d8 K "hung_by_room" qK)
  (V5:d8 K "states_from" yx)
  (Ku:d8 K "rooms_of_states" lV)
  (Ni:d8 K "keys_of_states" sY)
  (XR:d8 K "refusal_of" uY)
  (aeI:d8 K "counted" JT)
  (aa3:d8 K "ask_leads" Dh)
  (aa4:d8 K "ask_found" Di)
  (aeJ:d8 K "ask_way" JV)
  (aa5:d8 K "ask_small" Dj)
  (XS:d8 K "ask_needed" Aa)
  (V6:d8 K "ask_through" yD)
  (aa6:d8 K "ask_traps" Dk)
  (adb:d8 K "ask_shut" GF)
  (aa7:d8 K "ask_parts" Dl)
  (RT:d8 K "answer_start" wk)
  (V7:d8 K "answer_door" yE)
  (Nj:d8 K "answer_telling" sZ)
  (Kv:d8 K "answer_question" rD)
  (P0:d8 K "answer_asking" uI)
  (V8:d8 K "answer_call" yG)
  (aeK:d8 K "answers" JW)
  (Qa:nU K "CHAMBERS_MOST" 7)
  (RV:nU K "DEPTHS_LEAST" 2)
  (V9:nU K "DEPTHS_MOST" 10)
  (Eo:nU K "CHAMBER_DEPTHS_MOST" 6)
  (Wa:nU K "LETTER_SETS" 67108864)
  (aeL:nU K "NO_FORM" (-1))
  (ai8:nU K "FULL" (-2))
  (agm:nU K "NOT_SO" (-3))
  (aa8:nU K "NOT_THERE" (-4))
  (ade:nU K "NO_HOUSE" (-5))
  (ai9:nU K "FREE" 0)
  (agn:nU K "LOCKED" 1)
  (aja:nU K "SHUT" 2)
  (X4:nU K "ROOMS_MOST" 24)
  (aa9:nU K "KEYS_MOST" 8)
  (Nk:nU K "CYLINDERS_MOST" 16)
  (X5:nU K "DOORS_MOST" 24)
  (RW:nU K "HANGING_MOST" 4)
  (abb:nU K "OPEN_CALL" 0)
  (adf:nU K "KEY_CALL" 1)
  (Qc:nU K "CYLINDER_CALL" 2)
  (abd:nU K "DOOR_CALL" 3)
  (adg:nU K "FIT_CALL" 4)
  (abe:nU K "HANG_CALL" 5)
  (Wb:nU K "UNHANG_CALL" 6)
  (Wc:nU K "COUNTS_CALL" 7)
  (X6:nU K "OPENS_CALL" 8)
  (X7:nU K "LEADS_CALL" 9)
  (X8:nU K "FOUND_CALL" 10)
  (adh:nU K "WAY_CALL" 11)
  (Yb:nU K "SMALL_CALL" 12)
  (Wd:nU K "NEEDED_CALL" 13)
  (RX:nU K "THROUGH_CALL" 14)
  (Yc:nU K "TRAPS_CALL" 15)
  (abf:nU K "SHUT_CALL" 16)
  (Qe:TuF K "WHOLES" [7,1,1,6,3,2,1,0,1,2,2,3,4,3,3,2,2,1])
  (ajU:VP K "all")
  (abg:VP K "enumerate")
  (ajV:VP K "len")
  (ajb:VP K "list")
  (ajW:VP K "min")
  (ah4:VP K "range")
  (ajX:VP K "set")
  (ago:VP K "sorted")
  (ajY:VP K "sum")
  (ajZ:VP K "zip")
  :∃A:Ad,Txt K mg A∧A.rE=fa:=by
 obtain⟨lZ,tu,qe,xg,xG,BR⟩:=kdm X G aaW;obtain⟨DG,vB,tD,zE,JZ,afn⟩:=kdm X G aeA;obtain⟨jQ,j9,jM,pD,oW,Nm⟩:=kdm X G Hl;obtain⟨HN,yI,eO⟩:=eF X G agj;obtain⟨Dn,vC,uL⟩:=eF X G aeB;obtain⟨Dp,vD,jW⟩:=eF X G aeC;obtain⟨wN,qg,pF⟩:=eF X G aaX;obtain⟨qM,kh,jA⟩:=eF X G RJ;obtain⟨qN,kj,jB⟩:=eF X G RK;obtain⟨HS,yJ,xM⟩:=eF X G agk;obtain⟨tE,mG,lq⟩:=eF X G VR;obtain⟨Mp,Bm,Bp⟩:=eF X G ah3;obtain⟨cR,qj,oH,vg,d9,uU⟩:=kdm X G V0;obtain⟨gw,tG,qm,xq,DX,ah5⟩:=kdm X G aaY;obtain⟨tH,mH,lu⟩:=eF X G V1;obtain⟨Dq,vG,uM⟩:=eF X G aeD;obtain⟨qO,kE,jC⟩:=eF X G RL;obtain⟨uZ,oJ,fG⟩:=eF X G XF;obtain⟨Ds,vH,iC⟩:=eF X G aeE;obtain⟨tK,mJ,gJ⟩:=eF X G V2;obtain⟨Dt,vI,oV⟩:=eF X G aeF;obtain⟨nF,jj,cZ⟩:=eF X G M9;obtain⟨zx,tL,rN⟩:=eF X G ac8;obtain⟨zy,tM,rO⟩:=eF X G ac9;obtain⟨zA,tO,rP⟩:=eF X G ada;obtain⟨u0,oK,mX⟩:=eF X G XH;obtain⟨wO,qp,pG⟩:=eF X G aaZ;obtain⟨nH,jk,eN⟩:=eF X G Nb;obtain⟨qP,kI,jD⟩:=eF X G RM;obtain⟨qW,tQ,qt,xu,qY,Np⟩:=kdm X G aa0;obtain⟨wQ,qu,pH⟩:=eF X G aa1;obtain⟨u5,oM,mY⟩:=eF X G XJ;obtain⟨iB,mK,kJ,qX,iG,zN⟩:=kdm X G Ks;obtain⟨Du,vJ,uN⟩:=eF X G aeG;obtain⟨u6,oN,mZ⟩:=eF X G XM;obtain⟨jZ,gG,aX⟩:=eF X G Ir;obtain⟨HW,yK,m6⟩:=eF X G agl;obtain⟨qQ,kO,jE⟩:=eF X G RN;obtain⟨tR,mL,bY⟩:=eF X G V3;obtain⟨wU,qw,bW⟩:=eF X G aa2;obtain⟨qR,kW,jF⟩:=eF X G RP;obtain⟨jN,fU,fu⟩:=eF X G Ho;obtain⟨iT,fj,d7⟩:=eF X G En;obtain⟨pB,jO,je⟩:=eF X G PX;obtain⟨u9,oO,m7⟩:=eF X G XQ;obtain⟨gR,eV,dI⟩:=eF X G BP;obtain⟨Dv,vK,iD⟩:=eF X G aeH;obtain⟨nJ,jl,gU⟩:=eF X G Nf;obtain⟨j4,gH,fO⟩:=eF X G Iu;obtain⟨nM,jm,gW⟩:=eF X G Ng;obtain⟨nO,jo,gY⟩:=eF X G Nh;obtain⟨tU,mO,lA⟩:=eF X G V4;obtain⟨qT,kY,jG⟩:=eF X G RQ;obtain⟨tV,mQ,lB⟩:=eF X G V5;obtain⟨lX,iK,fZ⟩:=eF X G Ku;obtain⟨nP,jq,gZ⟩:=eF X G Ni;obtain⟨vd,oR,m8⟩:=eF X G XR;obtain⟨Dy,vL,cW⟩:=eF X G aeI;obtain⟨wV,qx,pI⟩:=eF X G aa3;obtain⟨wW,qy,pJ⟩:=eF X G aa4;obtain⟨Dz,vM,uO⟩:=eF X G aeJ;obtain⟨wX,qz,pK⟩:=eF X G aa5;obtain⟨vf,oU,m9⟩:=eF X G XS;obtain⟨tW,mR,lE⟩:=eF X G V6;obtain⟨wY,qC,pL⟩:=eF X G aa6;obtain⟨zB,tX,rQ⟩:=eF X G adb;obtain⟨wZ,qD,pN⟩:=eF X G aa7;obtain⟨qU,kZ,jH⟩:=eF X G RT;obtain⟨tY,mU,lF⟩:=eF X G V7;obtain⟨nQ,jr,g8⟩:=eF X G Nj;obtain⟨lY,iM,gh⟩:=eF X G Kv;obtain⟨pC,jP,jf⟩:=eF X G P0;obtain⟨tZ,mV,lH⟩:=eF X G V8;obtain⟨rE,rM,uP⟩:=eF X G aeK;obtain⟨uJ,Qg⟩:=Qa;obtain⟨wu,RZ⟩:=RV;obtain⟨yL,Wf⟩:=V9;obtain⟨mj,Ep⟩:=Eo;obtain⟨yM,Wg⟩:=Wa;obtain⟨JX,aeM⟩:=aeL;obtain⟨aal,ajc⟩:=ai8;obtain⟨Ow,agp⟩:=agm;obtain⟨DK,abh⟩:=aa8;obtain⟨GJ,adi⟩:=ade;obtain⟨aam,ajd⟩:=ai9;obtain⟨Ox,agq⟩:=agn;obtain⟨aan,aje⟩:=aja;obtain⟨Ab,Yd⟩:=X4;obtain⟨DN,abj⟩:=aa9;obtain⟨uc,Nq⟩:=Nk;obtain⟨Ac,Ye⟩:=X5;obtain⟨wz,R0⟩:=RW;obtain⟨DP,abk⟩:=abb;obtain⟨GK,adk⟩:=adf;obtain⟨uK,Qh⟩:=Qc;obtain⟨DQ,abl⟩:=abd;obtain⟨GP,adl⟩:=adg;obtain⟨DR,abm⟩:=abe;obtain⟨yN,Wh⟩:=Wb;obtain⟨yO,Wi⟩:=Wc;obtain⟨Ae,Yg⟩:=X6;obtain⟨Af,Yh⟩:=X7;obtain⟨Ag,Yi⟩:=X8;obtain⟨GQ,adn⟩:=adh;obtain⟨Ah,Yj⟩:=Yb;obtain⟨yP,Wj⟩:=Wd;obtain⟨wB,R3⟩:=RX;obtain⟨Ai,Yk⟩:=Yc;obtain⟨DW,abn⟩:=abf;obtain⟨Bo,agr,OD⟩:=Qe;have e:rE=fa:=by
  have q:=hfa.symm.trans uP.mg;cases q;rfl
 exact⟨⟨tu,qe,vB,tD,j9,jM,HN,yI,Dn,vC,Dp,vD,wN,qg,qM,kh,qN,kj,HS,yJ,tE,mG,Mp,Bm,qj,oH,tG,qm,tH,mH,Dq,vG,qO,kE,uZ,oJ,Ds,vH,tK,mJ,Dt,vI,nF,jj,zx,tL,zy,tM,zA,tO,u0,oK,wO,qp,nH,jk,qP,kI,tQ,qt,wQ,qu,u5,oM,mK,kJ,Du,vJ,u6,oN,jZ,gG,HW,yK,qQ,kO,tR,mL,wU,qw,qR,kW,jN,fU,iT,fj,pB,jO,u9,oO,gR,eV,Dv,vK,nJ,jl,j4,gH,nM,jm,nO,jo,tU,mO,qT,kY,tV,mQ,lX,iK,nP,jq,vd,oR,Dy,vL,wV,qx,wW,qy,Dz,vM,wX,qz,vf,oU,tW,mR,wY,qC,zB,tX,wZ,qD,qU,kZ,tY,mU,nQ,jr,lY,iM,pC,jP,tZ,mV,rE,rM,lZ,DG,jQ,cR,gw,qW,iB,uJ,wu,yL,mj,yM,JX,aal,Ow,DK,GJ,aam,Ox,aan,Ab,DN,uc,Ac,wz,DP,GK,uK,DQ,GP,DR,yN,yO,Ae,Af,Ag,GQ,Ah,yP,wB,Ai,DW,Bo⟩,⟨xg,zE,pD,eO,uL,jW,pF,jA,jB,xM,lq,Bp,vg,xq,lu,uM,jC,fG,iC,gJ,oV,cZ,rN,rO,rP,mX,pG,eN,jD,xu,pH,mY,qX,uN,mZ,aX,m6,jE,bY,bW,jF,fu,d7,je,m7,dI,iD,gU,fO,gW,gY,lA,jG,lB,fZ,gZ,m8,cW,pI,pJ,uO,pK,m9,lE,pL,rQ,pN,jH,lF,g8,gh,jf,lH,uP,xG,BR _ (by simp),BR _ (by simp),BR _ (by simp),BR _ (by simp),BR _ (by simp),BR _ (by simp),JZ,afn _ (by simp),afn _ (by simp),oW,Nm _ (by simp),Nm _ (by simp),d9,uU _ (by simp),uU _ (by simp),uU _ (by simp),uU _ (by simp),uU _ (by simp),uU _ (by simp),uU _ (by simp),DX,ah5 _ (by simp),qY,Np _ (by simp),Np _ (by simp),Np _ (by simp),Np _ (by simp),iG,zN _ (by simp),zN _ (by simp),zN _ (by simp),zN _ (by simp),PySem.W.mg_of X G Qg,PySem.W.mg_of X G RZ,PySem.W.mg_of X G Wf,PySem.W.mg_of X G Ep,PySem.W.mg_of X G Wg,PySem.W.mg_of X G aeM,PySem.W.mg_of X G ajc,PySem.W.mg_of X G agp,PySem.W.mg_of X G abh,PySem.W.mg_of X G adi,PySem.W.mg_of X G ajd,PySem.W.mg_of X G agq,PySem.W.mg_of X G aje,PySem.W.mg_of X G Yd,PySem.W.mg_of X G abj,PySem.W.mg_of X G Nq,PySem.W.mg_of X G Ye,PySem.W.mg_of X G R0,PySem.W.mg_of X G abk,PySem.W.mg_of X G adk,PySem.W.mg_of X G Qh,PySem.W.mg_of X G abl,PySem.W.mg_of X G adl,PySem.W.mg_of X G abm,PySem.W.mg_of X G Wh,PySem.W.mg_of X G Wi,PySem.W.mg_of X G Yg,PySem.W.mg_of X G Yh,PySem.W.mg_of X G Yi,PySem.W.mg_of X G adn,PySem.W.mg_of X G Yj,PySem.W.mg_of X G Wj,PySem.W.mg_of X G R3,PySem.W.mg_of X G Yk,PySem.W.mg_of X G abn,PySem.W.mg_of X G agr,OD,PySem.W.mg_none_of X G ajU,PySem.W.mg_none_of X G abg,PySem.W.mg_none_of X G ajV,PySem.W.mg_none_of X G ajb,PySem.W.mg_none_of X G ajW,PySem.W.mg_none_of X G ah4,PySem.W.mg_none_of X G ajX,PySem.W.mg_none_of X G ago,PySem.W.mg_none_of X G ajY,PySem.W.mg_none_of X G ajZ⟩,e⟩
end Kq
end
section
namespace Kq
open PySem PySem.Spec PyProof.Rows L2 Hk
theorem all_mk {P:Program}{w:World}{K:PySem.W.Frag}{mg:Str→Option Value}{fa:Addr}(z:∃A:Ad,Txt K mg A∧A.rE=fa)
  :∃fd:FuncData,(∀(s:Shared) (us:List Value),us.length=(["calls"]:List Str).length→BindsTo s fd ⟨us,[]⟩ ((["calls"]:List Str).zip us))∧∀base:Heap,K.In base→base.Ns mainGlobals mg→bK P w K mg base cV 12 fa fd ["calls"] (Hj K):=by
 obtain⟨A,T,e⟩:=z;subst e;obtain⟨oc,od,kV,doc,pm,an,cdv,ct,osl,efd,lk,hcd⟩:=T.uP.fn.ex;refine⟨A.rM,fun s us hu=>?_,fun base _ _=>ac7 T⟩;rw[efd];exact match us,hu with|[_],_=> .of_eq rfl
end Kq
inductive PySem.W.Fast:Prop|tw13433283038788580620|tw1101974553923981360|tw1981266337881687023|tw12504963563799103613|tw1455912703070228616|tw16773747189775327330|tw770498154684690574|tw10205207015463186482|tw7359738960252558617|tw11018274230384394002|tw6270448910915790251|tw1565297786125569586|tw9721642439266161463|tw11032978116991477736|tw3899210078453722698|tw17981972994975384063|tw5797396063828736642|tw10604852085345066860|tw9496732722785566046|tw5359282267600242586|tw4959110357348053684|tw11313659417656078335|tw14897887990707087323|tw7340034999193231637|tw7488923622365817536|tw18386571548954603287|tw17348319802346592955|tw3032116501095944723|tw7662914740835171505|tw11601405878320137543|tw8171923768866161972|tw17469874275926547593|tw14249456420319988513|tw10281128764853059571|tw10112754699399111389|tw14262030455911256364|tw18217899085678635072|tw2558624439112319165|tw5159706735933204515|tw15153238225025107804|tw4975004965914897957|tw18203816284723988824|tw6823601532722272133|tw10750941708860493188|tw3577439373544242142|tw7461502225638950978|tw587165650651629594|tw16968261466424961593|tw18059975017590638916|tw10777691155802704324|tw3459778044728057884|tw13069447949954231715|tw11218124074649153473|tw10729039712467623229|tw12434324742210246836|tw16377062961156973992|tw12612195736509504577|tw12789388874035432885|tw2293160053696787052|tw12352000330569527082|tw2812826740041739708|tw15650953105504121789|tw16909200343851212250|tw8413475614095938439|tw16577193060614117884|tw12451834536264068704|tw2132764819964529649|tw234076423260355980|tw16131844310558652282|tw12246639542795284883|tw2719759432880272932|tw3270378900780123917|tw8403576642097883329|tw9768240543059707124|tw13613358172210563106|tw540772048231064778|tw14487059087763301111|tw11687178372618296934|tw10756085994575277213|tw6118864930206414980|tw13883124149143899112|tw11919011540119217683|tw3868294093496192548|tw15511805098444992319|tw7544882130701964241|tw1846329603640196688|tw6371799761094044418|tw8048556379684624210|tw17932869770365227607|tw14240522369595154043|tw12067977250526555840|tw5813369453406311913|tw11019318640849769664|tw17846882205816172193|tw2112339912235137294|tw1504286924193038827|tw9676879271330025863|tw16669428930245067853|tw11012468916967800235|tw5654388408501522292|tw13436336558825692804|tw10811873466909055727|tw15952943252213703699|tw58702995418383379|tw1382846770017180230|tw10798512849666293640|tw5174201625104816515|tw3772323896417184777|tw5691142235144562214|tw15291378001823351631|tw56781499612122490|tw7224654039630016272|tw15292993349317305221|tw12357618171830598085|tw3491705237771456144|tw12431545999319863929|tw515432933734464227|tw6721108574418454991|tw5916766542603406718|tw6301068153617004028|tw8758783860624224620|tw12791683250845176136|tw5004071474460819900|tw13270376659906650708|tw7310067000612362081|tw17710504658834539793|tw16142400092456658333|tw4209591158101667621|tw63433903605737749|tw8127358138817140575|tw10948373375602542578|tw1321506541874582362|tw18295977514546728640|tw13665237910238990722|tw16712752294792468721|tw1397935209028578987|tw13949542158978481555|tw11531907077882874866|tw4159392957335055383|tw2034629789004122026|tw15561840085436180465|tw419345315379756173|tw12512971053093937463|tw6110380277121263499|tw6806321993323832417|tw11496728180634378489|tw1155108807262117912|tw11309138924302870948|tw4830803083860908512|tw6873938422844338155|tw1607913935615550441|tw1803934047241574367|tw12606363422014860893|tw2526392673759078737|tw10066214351744660898|tw9154505481879076915|tw1556114199259911772|tw17292598242378513265|tw549353331724049536|tw10683060097152426712|tw10824153521604593607|tw10098768140926812831|tw16175003988578797310|tw1626338564737532508|tw17141552280449235881|tw492611105889981753|tw13760473772110068141|tw17354653218160584775|tw13674466274820218090|tw8067663054528571714|tw7871665647823847313|tw13622178223801845050|tw7204096357260638141|tw9490686524724042727|tw795842029457500519|tw12749472553187628525|tw9031866076856998612|tw13782094097829507267|tw10083051570764940613|tw8592748002483995521|tw6828023457962859903|tw6257291799625095293|tw9500115633874445401|tw7608787602855399944|tw4685036245951891728|tw4231879840003208628|tw15065845916303648293|tw8061074675676496937|tw9617825808298166180|tw10644000395942974729|tw15065325941734279140|tw11239257258345898071|tw333316662875750156|tw1845933234945239490|tw11274394567249652498|tw1245892709037106472|tw12001946478933704113|tw17808790044664646540|tw12732146805479167322|tw6576613742925909872|tw2776975822396930067|tw11072856281029980248|tw2820588827991774398|tw12968302177019190471|tw7061298234309511377|tw696554683556231801|tw5866236669210029594|tw18119903808885981613|tw11862854427939974494|tw2710788796006758383|tw3536253633171514927|tw1731783093694698290|tw10887771975445021757|tw10581238048441699949|tw1042018157719445377|tw5152833906113475821|tw7544239514430730056|tw13713904194930274511|tw8204856779927792331|tw7448866632811469201|tw6104718309864312388
open PySem PySem.W PyProof.Rows
set_option maxRecDepth 100000 in
set_option maxHeartbeats 0 in
theorem PySem.Challenge.cw_keyhousedesk_s01_answers_holds : PySem.Challenge.rw_keyhousedesk_s01_answers.Holds := by
 w_on;k_headS;(case hw=>exact⟨[.list [.int 7]],by decide+kernel,by decide+kernel⟩)
 k_fillS
 refine L2.abS (r:=PySem.Challenge.rw_keyhousedesk_s01_answers) (k:=12) (CX:=L2.cV) (ps:=["calls"]) (sp:=Kq.Hj) (by decide+kernel) rfl rfl ⟨rfl,by decide,by decide⟩ (fun w h Y=>PySem.W.kIn_of Y) ?F ?S (fun _ _ _ _ z=>z);case F=>
  intro w mg fa h Y KX G hmg;refine' Kq.all_mk (Kq.ai7 KX G hmg ?aaW ?aeA ?Hl ?_ ?_ ?_ ?_ ?_ ?_ ?_ ?_ ?_ ?V0 ?aaY ?_ ?_ ?_ ?_ ?_ ?_ ?_ ?_ ?_ ?_ ?_ ?_ ?_ ?_ ?_ ?aa0 ?_ ?_ ?Ks ?_ ?_ ?_ ?_ ?_ ?_ ?_ ?_ ?_ ?_ ?_ ?_ ?_ ?_ ?_ ?_ ?_ ?_ ?_ ?_ ?_ ?_ ?_ ?_ ?_ ?_ ?_ ?_ ?_ ?_ ?_ ?_ ?_ ?_ ?_ ?_ ?_ ?_ ?_ ?_ ?_ ?_ ?_ ?_ ?_ ?_ ?_ ?_ ?_ ?_ ?_ ?_ ?_ ?_ ?_ ?_ ?_ ?_ ?_ ?_ ?_ ?_ ?_ ?_ ?_ ?_ ?_ ?_ ?_ ?_ ?_ ?_ ?_ ?_ ?_ ?_ ?Qe ?_ ?_ ?_ ?_ ?_ ?_ ?_ ?_ ?_ ?_);case aaW=>(refine' Kq.klF ?a ?b ?i ?l ?c ?k ?pg ?hd ?po ?sa ?mk ?kc ⟨?n0,?n1,?n2,?n3,?n4,?n5,trivial⟩;(case a=>k_is);(case b=>k_is);(case i=>k_is);(case l=>k_is);(case c=>k_is);(case k=>k_is);(case pg=>k_is);(case hd=>k_is);(case po=>k_is);(case sa=>k_is);(case mk=>k_is);(case kc=>k_is);(case n0=>(show PySem.W.findIn _ _ _=some none;k_is));(case n1=>(show PySem.W.findIn _ _ _=some none;k_is));(case n2=>(show PySem.W.findIn _ _ _=some none;k_is));(case n3=>(show PySem.W.findIn _ _ _=some none;k_is));(case n4=>(show PySem.W.findIn _ _ _=some none;k_is));(case n5=>(show PySem.W.findIn _ _ _=some none;k_is)))
  case aeA=>(refine' Kq.klF ?a ?b ?i ?l ?c ?k ?pg ?hd ?po ?sa ?mk ?kc ⟨?n0,?n1,trivial⟩;(case a=>k_is);(case b=>k_is);(case i=>k_is);(case l=>k_is);(case c=>k_is);(case k=>k_is);(case pg=>k_is);(case hd=>k_is);(case po=>k_is);(case sa=>k_is);(case mk=>k_is);(case kc=>k_is);(case n0=>(show PySem.W.findIn _ _ _=some none;k_is));(case n1=>(show PySem.W.findIn _ _ _=some none;k_is)))
  case Hl=>(refine' Kq.klF ?a ?b ?i ?l ?c ?k ?pg ?hd ?po ?sa ?mk ?kc ⟨?n0,?n1,trivial⟩;(case a=>k_is);(case b=>k_is);(case i=>k_is);(case l=>k_is);(case c=>k_is);(case k=>k_is);(case pg=>k_is);(case hd=>k_is);(case po=>k_is);(case sa=>k_is);(case mk=>k_is);(case kc=>k_is);(case n0=>(show PySem.W.findIn _ _ _=some none;k_is));(case n1=>(show PySem.W.findIn _ _ _=some none;k_is)))
  case V0=>(refine' Kq.klF ?a ?b ?i ?l ?c ?k ?pg ?hd ?po ?sa ?mk ?kc ⟨?n0,?n1,?n2,?n3,?n4,?n5,?n6,trivial⟩;(case a=>k_is);(case b=>k_is);(case i=>k_is);(case l=>k_is);(case c=>k_is);(case k=>k_is);(case pg=>k_is);(case hd=>k_is);(case po=>k_is);(case sa=>k_is);(case mk=>k_is);(case kc=>k_is);(case n0=>(show PySem.W.findIn _ _ _=some none;k_is));(case n1=>(show PySem.W.findIn _ _ _=some none;k_is));(case n2=>(show PySem.W.findIn _ _ _=some none;k_is));(case n3=>(show PySem.W.findIn _ _ _=some none;k_is));(case n4=>(show PySem.W.findIn _ _ _=some none;k_is));(case n5=>(show PySem.W.findIn _ _ _=some none;k_is));(case n6=>(show PySem.W.findIn _ _ _=some none;k_is)))
  case aaY=>(refine' Kq.klF ?a ?b ?i ?l ?c ?k ?pg ?hd ?po ?sa ?mk ?kc ⟨?n0,trivial⟩;(case a=>k_is);(case b=>k_is);(case i=>k_is);(case l=>k_is);(case c=>k_is);(case k=>k_is);(case pg=>k_is);(case hd=>k_is);(case po=>k_is);(case sa=>k_is);(case mk=>k_is);(case kc=>k_is);(case n0=>(show PySem.W.findIn _ _ _=some none;k_is)))
  case aa0=>(refine' Kq.klF ?a ?b ?i ?l ?c ?k ?pg ?hd ?po ?sa ?mk ?kc ⟨?n0,?n1,?n2,?n3,trivial⟩;(case a=>k_is);(case b=>k_is);(case i=>k_is);(case l=>k_is);(case c=>k_is);(case k=>k_is);(case pg=>k_is);(case hd=>k_is);(case po=>k_is);(case sa=>k_is);(case mk=>k_is);(case kc=>k_is);(case n0=>(show PySem.W.findIn _ _ _=some none;k_is));(case n1=>(show PySem.W.findIn _ _ _=some none;k_is));(case n2=>(show PySem.W.findIn _ _ _=some none;k_is));(case n3=>(show PySem.W.findIn _ _ _=some none;k_is)))
  case Ks=>(refine' Kq.klF ?a ?b ?i ?l ?c ?k ?pg ?hd ?po ?sa ?mk ?kc ⟨?n0,?n1,?n2,?n3,trivial⟩;(case a=>k_is);(case b=>k_is);(case i=>k_is);(case l=>k_is);(case c=>k_is);(case k=>k_is);(case pg=>k_is);(case hd=>k_is);(case po=>k_is);(case sa=>k_is);(case mk=>k_is);(case kc=>k_is);(case n0=>(show PySem.W.findIn _ _ _=some none;k_is));(case n1=>(show PySem.W.findIn _ _ _=some none;k_is));(case n2=>(show PySem.W.findIn _ _ _=some none;k_is));(case n3=>(show PySem.W.findIn _ _ _=some none;k_is)))
  case Qe=>(refine' Kq.tuF ?e ?l ?v ?z;(case e=>k_is);(case l=>k_is);(case v=>exact .cons ⟨_,rfl⟩ (.cons ⟨_,rfl⟩ (.cons ⟨_,rfl⟩ (.cons ⟨_,rfl⟩ (.cons ⟨_,rfl⟩ (.cons ⟨_,rfl⟩ (.cons ⟨_,rfl⟩ (.cons ⟨_,rfl⟩ (.cons ⟨_,rfl⟩ (.cons ⟨_,rfl⟩ (.cons ⟨_,rfl⟩ (.cons ⟨_,rfl⟩ (.cons ⟨_,rfl⟩ (.cons ⟨_,rfl⟩ (.cons ⟨_,rfl⟩ (.cons ⟨_,rfl⟩ (.cons ⟨_,rfl⟩ (.cons ⟨_,rfl⟩ (.nil)))))))))))))))))));(case z=>(show 18≤sizeLine;decide)))
  all_goals first|((with_reducible refine' Kq.fnF ?a ?l ?c ?k);(case a=>k_is);(case l=>k_is);(case c=>k_is);(case k=>k_is))|((with_reducible refine' Kq.coF ?a);(case a=>k_is))|((with_reducible show Kq.VP _ _);(show PySem.W.nsIn _ _ _=some none);k_is)

 case S=>
  intro K H xs a hO hwi akt hx;cases hx with
  |cons h1 h2=>
   cases h2;cases h1 with
   |lst hs ha=>
    have e:=L2.abP a.1 _ ha;subst e;exact⟨_,a.1,rfl,hs,akt,fun H' p hp=> .lst (L2.dR.of hp) (L2.abO _)⟩
end
