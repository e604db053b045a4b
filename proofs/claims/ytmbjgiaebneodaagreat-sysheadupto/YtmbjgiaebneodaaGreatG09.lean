/- What is proved here: plain facts and contracts that the claimed theorem stands on. No condition but those that each names. -/
import Derived.Test.YtmbjgiaebneodaaGreatG08
namespace Go.Proofs.YtmbjgiaebneodaaGreat
open Go.RowKit
set_option maxRecDepth 100000
set_option maxHeartbeats 1000000
def mH:ByteArray:=⟨#[115,101,108,102]⟩
def qM:ByteArray:=⟨#[97,100,100]⟩
def rJ:ByteArray:=⟨#[112,117,116]⟩
def nR (N:Nat) (x:Tm N):Int:=(gZ N x).1.2.1
def tq (n:Nat) (p:List (Tm n)) (s:ByteArray) (k:Nat):Bool:=
 decide (p.length=1+k) && match p[0]? with
  | some y=>aU ⟨n,y⟩==2 && (gZ n y).1.2.2.toList==s.toList
  | none=>false
def bF {α β:Type} (f:α->Option β):List α->Option (List β)
 | []=>some []
 | a::p=>(f a).bind fun b=>(bF f p).map fun l=>b::l
def aF (k u:Int) (N:Nat):Tm (N+1):=((k,u,.empty),(none,0),[])
def Ao (N:Nat) (a c:Tm N):Bool:=aU ⟨N,a⟩==1 && aU ⟨N,c⟩==1 && kr (nR N a+nR N c) (-1099511627776) 1099511627776
def tX (N:Nat) (a c:Tm N):Option (Tm (N+1)):=if Ao N a c then some (aF 1 (nR N a+nR N c) N)else none
def bH (N:Nat) (l:List (Tm N)):Tm (N+1):=((4,0,.empty),(none,0),l)
def vl (m:Nat) (b:List (Tm m)) (self:Int):(n:Nat)->Tm n->Option (Tm (m+n))
 | 0,_=>none
 | n+1,x=>
  if x.1.1=5 then (b[x.1.2.1.toNat]?).bind fun y=>if aU ⟨m,y⟩=6 then none else some (lift (m+n+1) m y)
  else if x.1.1=6 then none
  else if x.1.1=4 then
   if tq n x.2.2 mH 0 then some (aF 3 self (m+n))
   else if tq n x.2.2 qM 2 then
    (x.2.2[1]?).bind fun a=>(x.2.2[2]?).bind fun c=>(vl m b self n a).bind fun a=>(vl m b self n c).bind fun c=>tX (m+n) a c
   else if tq n x.2.2 rJ 1 then
    (x.2.2[1]?).bind fun a=>if av n a then some (lift (m+n+1) n a)else none
   else (bF (fun y=>vl m b self n y) x.2.2).map (bH (m+n))
  else some (lift (m+n+1) (n+1) x)
theorem o8 {α β:Type} (f:α->Option β):(p:List α)->(l:List β)->bF f p=some l->l.length=p.length/\∀(i:Nat) (a:α) (y:β),p[i]? =some a->l[i]? =some y->f a=some y
 | [],l,h=>by simp[bF]at h;subst h;exact⟨rfl,fun i a y hi=>by simp at hi⟩
 | a::p,l,h=>by
  simp only[bF]at h
  obtain⟨y,hy,h⟩:=Option.bind_eq_some_iff.1 h
  obtain⟨r,hr,rfl⟩:=Option.map_eq_some_iff.1 h
  obtain⟨h1,h2⟩:=o8 f p r hr
  refine⟨by simp[h1],fun i a' y' hi hj=> ?_⟩
  cases i with
  | zero=>
   simp at hi hj
   subst hi hj
   exact hy
  | succ i=>exact h2 i a' y' (by simpa using hi) (by simpa using hj)
theorem kE {α β:Type} (f:α->Option β):(p:List α)->(i:Nat)->(a:α)->p[i]? =some a->f a=none->bF f p=none
 | [],i,a,h,_=>by simp at h
 | b::p,0,a,h,k=>by
  simp at h
  subst h
  simp[bF,k]
 | b::p,i+1,a,h,k=>by
  simp only[bF]
  rw[kE f p i a (by simpa using h) k]
  simp
theorem xU {α β:Type} (f:α->Option β) (g:α->β):(p:List α)->(∀a∈p,f a=some (g a))->bF f p=some (p.map g)
 | [],_=>rfl
 | a::p,h=>by simp[bF,h a (by simp),xU f g p fun x hx=>h x (List.mem_cons_of_mem _ hx)]
theorem Aq {α β γ:Type} (f:α->List γ) (g:β->List γ) (K:Nat):(p:List α)->(l:List β)->l.length=p.length->(∀(i:Nat) (a:α) (y:β),p[i]? =some a->l[i]? =some y->(g y).length<=K*(f a).length)->(l.flatMap g).length<=K*(p.flatMap f).length
 | [],[],_,_=>by simp
 | [],_::_,h,_=>by simp at h
 | _::_,[],h,_=>by simp at h
 | a::p,y::l,h,k=>by
  have h1:=k 0 a y rfl rfl
  have h2:=Aq f g K p l (by simpa using h) fun i a y hi hj=>k (i+1) a y (by simpa using hi) (by simpa using hj)
  simp only[List.flatMap_cons,List.length_append]
  rw[Nat.mul_add]
  omega
theorem mZ:(N n:Nat)->n<=N->(x:Tm n)->(nodes N (lift N n x)).length<=(nodes n x).length
 | 0,0,_,_=>Nat.le_refl _
 | _+1,0,_,_=>by simp[lift,nodes]
 | 0,n+1,h,_=>by omega
 | N+1,n+1,h,x=>by
  have:=Aq (fun y=>nodes n y) (fun y=>nodes N y) 1 x.2.2 (x.2.2.map fun y=>lift N n y) (by simp) fun i a y hi hj=>by
   simp[hi]at hj
   subst hj
   rw[Nat.one_mul]
   exact mZ N n (by omega) a
  simp only[nodes,lift,List.length_cons]
  omega
theorem uS {a K:Nat} (h:1<=K):a<=K*a:=Nat.le_mul_of_pos_left a h
theorem Ck {α γ:Type} (f:α->List γ) (p:List α) (a:α) (h:a∈p):(f a).length<=(p.flatMap f).length:=by
 induction p with
 | nil=>cases h
 | cons b p ih=>
  simp only[List.flatMap_cons,List.length_append]
  rcases List.mem_cons.1 h with rfl|h
  ·omega
  ·have:=ih h;omega
theorem Ct (m:Nat) (b:List (Tm m)) (self:Int) (K:Nat) (hK:1<=K) (hb:∀y∈b,(nodes m y).length<=K):(n:Nat)->(x:Tm n)->(z:Tm (m+n))->vl m b self n x=some z->(nodes (m+n) z).length<=K*(nodes n x).length
 | 0,_,_,h=>by simp[vl]at h
 | n+1,x,z,h=>by
  have one:∀k u,(nodes (m+n+1) (aF k u (m+n))).length<=K*(nodes (n+1) x).length:=fun k u=>by
   have:1*1<=K*(nodes (n+1) x).length:=Nat.mul_le_mul hK (by simp[nodes])
   simpa [nodes,aF]using this
  have up:∀(y:Tm n),y∈x.2.2->K*(nodes n y).length<=K*(nodes (n+1) x).length:=fun y hy=>by
   have:=Ck (fun y=>nodes n y) x.2.2 y hy
   exact Nat.mul_le_mul_left K (by simp only[nodes,List.length_cons]at this ⊢;omega)
  simp only[vl]at h
  split at h
  ·obtain⟨y,hy,h⟩:=Option.bind_eq_some_iff.1 h
   split at h
   ·cases h
   ·obtain rfl:=Option.some.inj h
    have h1:=mZ (m+n+1) m (by omega) y
    have h2:=hb y (List.mem_of_getElem? hy)
    have h3:K*1<=K*(nodes (n+1) x).length:=Nat.mul_le_mul_left K (by simp[nodes])
    show (nodes (m+n+1) _).length<=_
    omega
  ·split at h
   ·cases h
   ·split at h
    ·split at h
     ·obtain rfl:=Option.some.inj h
      exact one _ _
     ·split at h
      ·obtain⟨a,ha,h⟩:=Option.bind_eq_some_iff.1 h
       obtain⟨c,hc,h⟩:=Option.bind_eq_some_iff.1 h
       obtain⟨a',ha',h⟩:=Option.bind_eq_some_iff.1 h
       obtain⟨c',hc',h⟩:=Option.bind_eq_some_iff.1 h
       unfold tX at h
       split at h
       ·obtain rfl:=Option.some.inj h
        exact one _ _
       ·cases h
      ·split at h
       ·obtain⟨a,ha,h⟩:=Option.bind_eq_some_iff.1 h
        split at h
        ·obtain rfl:=Option.some.inj h
         have h1:=mZ (m+n+1) n (by omega) a
         have h2:=up a (List.mem_of_getElem? ha)
         have h3:=uS (a:=(nodes n a).length) hK
         show (nodes (m+n+1) _).length<=_
         omega
        ·cases h
       ·obtain⟨l,hl,rfl⟩:=Option.map_eq_some_iff.1 h
        obtain⟨h1,h2⟩:=o8 _ _ _ hl
        have h3:=Aq (fun y=>nodes n y) (fun y=>nodes (m+n) y) K x.2.2 l h1 fun i a y hi hj=>Ct m b self K hK hb n a y (h2 i a y hi hj)
        show (nodes (m+n+1) (bH (m+n) l)).length<=_
        simp only[nodes,bH,List.length_cons]
        rw[Nat.mul_add]
        omega
    ·obtain rfl:=Option.some.inj h
     have h1:=mZ (m+n+1) (n+1) (by omega) x
     have h3:=uS (a:=(nodes (n+1) x).length) hK
     show (nodes (m+n+1) _).length<=_
     omega
theorem jf:(n:Nat)->(x:Tm n)->(m:Nat)->(y:Tm m)->same n x m y=true->(nodes n x).length=(nodes m y).length
 | 0,_,_,_,h=>by simp[same]at h
 | _+1,_,0,_,h=>by simp[same]at h
 | n+1,x,m+1,y,h=>by
  obtain⟨h1,h2⟩:=aM h
  have key:∀(p:List (Tm n)) (q:List (Tm m)),ah (fun a b=>same n a m b) p q=true->(p.flatMap fun y=>nodes n y).length=(q.flatMap fun y=>nodes m y).length:=by
   intro p
   induction p with
   | nil=>intro q hq;cases q with
    | nil=>rfl
    | cons _ _=>simp[ah]at hq
   | cons a p ih=>intro q hq;cases q with
    | nil=>simp[ah]at hq
    | cons c q=>
     simp only[ah,Bool.and_eq_true]at hq
     simp only[List.flatMap_cons,List.length_append]
     rw[jf n a m c hq.1,ih q hq.2]
  simp only[nodes,List.length_cons]
  rw[key _ _ h2]
theorem aN {n:Nat} {x:Tm n}:aQ n x=0 ↔ aY n x=true/\dU n x<=12/\sz n x<=200:=by
 rw[<-ik]
 unfold zS
 constructor
 ·intro h
  split at h
  ·rename_i hf
   split at h
   ·cases h
   ·rename_i hd
    exact⟨hf,by omega,by omega⟩
  ·cases h
 ·rintro ⟨h1,h2,h3⟩
  rw[if_pos h1,if_neg (by omega)]
theorem FW:(n:Nat)->(x:Tm n)->ai ⟨n,x⟩->((nodes n x).length:Int)<=sz n x+1
 | 0,_,h=>(bQ h).elim
 | n+1,x,h=>by
  have gx:=dD (aL n x) (h (aL n x) (by simp[nodes,aL]))
  by_cases h4:x.1.1=4
  ·have key:∀l:List (Tm n),(∀y∈l,ai ⟨n,y⟩)->((l.flatMap fun y=>nodes n y).length:Int)<=(l.map fun y=>1+sz n y).sum:=by
     intro l
     induction l with
     | nil=>intro _;simp
     | cons y l ih=>
      intro hl
      have h1:=FW n y (hl y (by simp))
      have h2:=ih fun z hz=>hl z (List.mem_cons_of_mem _ hz)
      simp only[List.flatMap_cons,List.length_append,List.map_cons,List.sum_cons]
      omega
   have:=key x.2.2 fun y hy=>aH n x y h hy
   simp only[nodes,List.length_cons,sz,if_pos h4]
   omega
  ·have:x.2.2=[]:=List.eq_nil_of_length_eq_zero (gx.2.2.2.2 h4)
   simp[nodes,this,sz,h4]
theorem mg {n:Nat} {x:Tm n} (h:aQ n x=0):(nodes n x).length<=201:=by
 obtain⟨h1,_,h3⟩:=aN.1 h
 have:=FW n x (ax.2 h1)
 omega
theorem fT {m:Nat} {b:List (Tm m)} (h:eX m b=true):b.length=4/\∀y∈b,aQ m y=0/\ai ⟨m,y⟩/\(aU ⟨m,y⟩=6∨av m y=true):=by
 unfold eX at h
 simp only[Bool.and_eq_true,decide_eq_true_eq,List.all_eq_true]at h
 refine⟨h.1,fun y hy=> ?_⟩
 have:=h.2 y hy
 unfold okB at this
 simp only[Bool.and_eq_true,Bool.or_eq_true,beq_iff_eq]at this
 refine⟨this.1,ax.2 (aN.1 this.1).1, ?_⟩
 rw[dQ]
 exact this.2
theorem oI {N n:Nat} (h:n<=N) (x:Tm n) (hr:ai ⟨n,x⟩):ai ⟨N,lift N n x⟩:=by
 cases n with
 | zero=>exact(bQ hr).elim
 | succ n=>
  obtain⟨M,rfl⟩:∃M,N=M+1:=⟨N-1,by omega⟩
  intro a ha
  simp only at ha
  rw[kT M n (by omega) x]at ha
  exact hr a ha
theorem uC {N:Nat} {x:Tm (N+1)} (h:good (aL N x)=true) (k:∀y∈x.2.2,ai ⟨N,y⟩):ai ⟨N+1,x⟩:=by
 intro a ha
 simp only[nodes,List.mem_cons,List.mem_flatMap]at ha
 rcases ha with rfl|⟨y,hy,ha⟩
 ·exact h
 ·exact k y hy a ha
theorem vN (m:Nat) (b:List (Tm m)) (self:Int) (hs:1<=self/\self<=99) (hb:∀y∈b,ai ⟨m,y⟩):(n:Nat)->(x:Tm n)->ai ⟨n,x⟩->(z:Tm (m+n))->vl m b self n x=some z->ai ⟨m+n,z⟩
 | 0,_,_,_,h=>by simp[vl]at h
 | n+1,x,hr,z,h=>by
  have hg:=hr (aL n x) (by simp[nodes,aL])
  have hl:x.2.2.length<=8:=ky (aL n x) hg
  simp only[vl]at h
  split at h
  ·obtain⟨y,hy,h⟩:=Option.bind_eq_some_iff.1 h
   split at h
   ·cases h
   ·obtain rfl:=Option.some.inj h
    exact oI (N:=m+n+1) (by omega) y (hb y (List.mem_of_getElem? hy))
  ·split at h
   ·cases h
   ·split at h
    ·split at h
     ·obtain rfl:=Option.some.inj h
      exact uC (N:=m+n) (by simp[good,aF,aL,kr,hs]) (by intro y hy;cases hy)
     ·split at h
      ·obtain⟨a,ha,h⟩:=Option.bind_eq_some_iff.1 h
       obtain⟨c,hc,h⟩:=Option.bind_eq_some_iff.1 h
       obtain⟨a',ha',h⟩:=Option.bind_eq_some_iff.1 h
       obtain⟨c',hc',h⟩:=Option.bind_eq_some_iff.1 h
       unfold tX at h
       split at h
       ·rename_i hsum
        obtain rfl:=Option.some.inj h
        simp only[Ao,Bool.and_eq_true]at hsum
        exact uC (N:=m+n) (by simp[good,aF,aL,hsum.2]) (by intro y hy;cases hy)
       ·cases h
      ·split at h
       ·obtain⟨a,ha,h⟩:=Option.bind_eq_some_iff.1 h
        split at h
        ·obtain rfl:=Option.some.inj h
         exact oI (N:=m+n+1) (by omega) a (aH n x a hr (List.mem_of_getElem? ha))
        ·cases h
       ·obtain⟨l,hl2,rfl⟩:=Option.map_eq_some_iff.1 h
        obtain⟨h1,h2⟩:=o8 _ _ _ hl2
        refine uC (N:=m+n) ?_ fun y hy=> ?_
        ·have:(l.length:Int)<=8:=by omega
         simp[good,bH,aL,this]
        ·obtain⟨i,hi⟩:=List.getElem?_of_mem hy
         have hi2:i<x.2.2.length:=by rw[<-h1];exact(List.getElem?_eq_some_iff.1 hi).1
         exact vN m b self hs hb n x.2.2[i] (aH n x _ hr (List.getElem_mem _)) y (h2 i _ y (List.getElem?_eq_getElem hi2) hi)
    ·obtain rfl:=Option.some.inj h
     exact oI (N:=m+n+1) (by omega) x hr
def FN (ck:Int) (bd:Bool) (self:Int):Int:=if ck=0 then if bd then if 1<=self/\self<=99 then 0 else 1 else 5 else ck
def lS {N:Nat} (E:Int) (o:Option (Tm N)):Option (Tm N):=if E=0 then o.bind fun z=>if aQ N z=0 then some z else none else none
def Gd {N:Nat} (E:Int) (o:Option (Tm N)):Int:=if E=0 then if o.isSome then 0 else 7 else E
theorem Gi {n:Nat} {p:List (Tm n)} {s:ByteArray} {k:Nat} (h:p.length≠1+k):tq n p s k=false:=by simp[tq,h]
theorem PG {n:Nat} {p:List (Tm (n+1))} {s:ByteArray} {k:Nat} {y:Tm (n+1)} (h:p.length=1+k) (hy:p[0]? =some y):tq (n+1) p s k=(y.1.1==2 && y.1.2.2.toList==s.toList):=by
 simp[tq,h,hy,aU,gZ,aL]
theorem IZ (a:Option Addr) (len pc:Nat) (s:ByteArray) (k:Nat) (w:World) (hk:k<=8) (h:len≠1+k):
    Calls Tryz.prog 143 #[.slice a len pc,.string s,.int .i64 k] w fun e w'=>e=.returned (.bool false)/\w'=w:=by
 have h1:((len:Int)==1+(k:Int))=false:=by simp;omega
 have e1:IntKind.i64.wrap (1+(k:Int))=1+(k:Int):=by rw[IntKind.wrap];simp[IntKind.bits,IntKind.signed];omega
 go_enter Tryz.func143,Tryz.ntmps143
 go_wp2_with fail
 go_ret
 exact⟨rfl,rfl⟩
theorem IR (pb po len pc:Nat) (s:ByteArray) (k:Nat) (x0:Int) (x2:ByteArray) (w:World) (hlen:len<=8) (hk:k<=8) (h:len=1+k) (c0:w.cell? ⟨pb,po,none⟩=some (.int .i64 x0)) (c2:w.cell? ⟨pb,po+2,none⟩=some (.string x2)):
    Calls Tryz.prog 143 #[.slice (some ⟨pb,po,none⟩) len pc,.string s,.int .i64 k] w fun e w'=>e=.returned (.bool (x0==2 && x2.toList==s.toList))/\w'=w:=by
 have h1:((len:Int)==1+(k:Int))=true:=by simp;omega
 have e1:IntKind.i64.wrap (1+(k:Int))=1+(k:Int):=by rw[IntKind.wrap];simp[IntKind.bits,IntKind.signed];omega
 have h2:(0:Int)<(len:Int):=by omega
 cases hx:x0==2
 ·go_enter Tryz.func143,Tryz.ntmps143
  go_wp2_with fail
  go_ret
  exact⟨rfl,rfl⟩
 ·go_enter Tryz.func143,Tryz.ntmps143
  go_wp2_with fail
  go_ret
  exact⟨rfl,rfl⟩
theorem E8 (n:Nat) (p:List (Tm n)) (a:Option Addr) (pc B:Nat) (s:ByteArray) (k:Nat) (w:World) (hp:Lies B w n p a) (hlen:p.length<=8) (hk:k<=8):
    Calls Tryz.prog 143 #[.slice a p.length pc,.string s,.int .i64 k] w fun e w'=>e=.returned (.bool (tq n p s k))/\w'=w:=by
 by_cases h:p.length=1+k
 ·rcases hp with hp|⟨b,o,rfl,hb,hp⟩
  ·rw[hp]at h;simp at h;omega
  ·obtain⟨y,hy⟩:∃y,p[0]? =some y:=⟨p[0]'(by omega),List.getElem?_eq_getElem _⟩
   obtain⟨h1,h2⟩:=hp 0 y hy
   cases n with
   | zero=>exact h1.elim
   | succ n=>
    rw[PG h hy]
    obtain⟨c0,c1,c2,c3⟩:=h1
    exact IR b o p.length pc s k y.1.1 y.1.2.2 w hlen hk h (by simpa using c0) (by simpa using c2)
 ·rw[Gi h]
  exact IZ a p.length pc s k w hk h
def jd (N:Nat) (o:Option (Tm N)) (w:World) (e:Ending) (w':World):Prop:=
 ∃(y:Tm N) (r:Bool),e=.returned (.tuple #[val N y,.bool r])/\Hid (Below w.heap.size w w'/\In w'.heap.size w' N y/\Off (fun q=>w.heap.size<=q) N y/\r=o.isSome/\∀z,o=some z->same N y N z=true)
def PR (m:Nat) (b:List (Tm m)) (self:Int) (n:Nat):Prop:=∀(x:Tm n) (a:Option Addr) (c B:Nat) (w:World),In B w n x->ai ⟨n,x⟩->Lies B w m b a->B<=w.heap.size->
 Calls Tryz.prog 127 #[.agg #[.slice a 4 c,.int .i64 self],val n x] w (jd (m+n) (vl m b self n x) w)
def O8 {N:Nat} (o:Option (Tm N)) (w:World) (e:Ending) (w':World):Prop:=
 ∃(u:Int) (r:Bool),e=.returned (.tuple #[.int .i64 u,.bool r])/\Hid (Below w.heap.size w w'/\r=(o.isSome && o.all fun z=>aU ⟨N,z⟩==1)/\∀z,o=some z->u=nR N z)
theorem Fu {N:Nat} {o:Option (Tm (N+1))} {w w1 w2:World} {y:Tm (N+1)} {r:Bool} (hb:Below w.heap.size w w2) (h:Below w1.heap.size w1 w2/\In w2.heap.size w2 (N+1) y/\Off (fun q=>w1.heap.size<=q) (N+1) y/\r=o.isSome/\∀z,o=some z->same (N+1) y (N+1) z=true) (r':Bool) (hr:r'=(r && y.1.1==1)):
    Below w.heap.size w w2/\r'=(o.isSome && o.all fun z=>aU ⟨N+1,z⟩==1)/\∀z,o=some z->y.1.2.1=nR (N+1) z:=by
 obtain⟨_,_,_,h4,h5⟩:=h
 refine⟨hb, ?_,fun z hz=> ?_⟩
 ·rw[hr,h4]
  cases ho:o with
  | none=>rfl
  | some z=>
   have:=(aM (h5 z ho)).1
   simp[aU,this]
 ·have:=(aM (h5 z hz)).1
  simp[nR,gZ,aL,this]
theorem GD {w w':World} {o1 o2:Obj} (h:Below ((w.alloc o1).alloc o2).heap.size ((w.alloc o1).alloc o2) w'):Below w.heap.size w w':=by
 have h2:Below w.heap.size w ((w.alloc o1).alloc o2):=((Below.refl _ _).alloc (Nat.le_refl _) _).alloc (by simp) _
 exact h2.trans (h.mono h2.size)
theorem sK (N:Nat) (o:Option (Tm (N+1))) (a:Option Addr) (c:Nat) (self:Int) (x0 x1:Int) (x2:ByteArray) (xa:Option Addr) (xl xc:Nat) (w:World)
    (HV:Hid (∀w1,Below w.heap.size w w1->Calls Tryz.prog 127 #[.agg #[.slice a 4 c,.int .i64 self],.agg #[.int .i64 x0,.int .i64 x1,.string x2,.slice xa xl xc]] w1 (jd (N+1) o w1))):
    Calls Tryz.prog 149 #[.agg #[.slice a 4 c,.int .i64 self],.agg #[.int .i64 x0,.int .i64 x1,.string x2,.slice xa xl xc]] w (O8 o w):=by
 go_enter Tryz.func149,Tryz.ntmps149
 go_wp2_with fail
 refine(HV.out _ (((Below.refl _ _).alloc (Nat.le_refl _) _).alloc (by simp) _)).mono ?_
 rintro e w2 ⟨y,r,rfl,H⟩
 have HB:Hid (Below w.heap.size w w2):=GD H.out.1
 have e3:val (N+1) y=.agg #[.int .i64 y.1.1,.int .i64 y.1.2.1,.string y.1.2.2,.slice y.2.1.1 y.2.2.length y.2.1.2]:=rfl
 rw[e3]
 clear e3 HV
 have HN:=fun r' hr=>hide (Fu HB.out H.out r' hr)
 clear HB H
 have HB2:Hid (∀o:Obj,Below w.heap.size w w2->Below w.heap.size w (w2.alloc o).drew):=fun o h=>(h.alloc h.size o).drew
 cases r
 ·go_wp2_with fail
  go_region
  go_wp2_with fail
  go_ret2
  have h:=(HN false rfl).out
  exact⟨_,_,rfl,HB2.out _ h.1,h.2⟩
 ·go_wp2_with fail
  go_region
  go_wp2_with fail
  go_ret2
  have h:=(HN _ rfl).out
  exact⟨_,_,rfl,HB2.out _ h.1,h.2⟩
def Qt {N:Nat} (o:Option (Tm N)):Prop:=∀z,o=some z->aU ⟨N,z⟩=1-> -1099511627776<=nR N z/\nR N z<=1099511627776
def xe {N:Nat} (o1 o2:Option (Tm N)):Option (Tm (N+1)):=o1.bind fun a=>o2.bind fun c=>tX N a c
theorem NT {N:Nat} {o1 o2:Option (Tm N)} (h:(o1.isSome && o1.all fun z=>aU ⟨N,z⟩==1)=false):xe o1 o2=none:=by
 cases o1 with
 | none=>rfl
 | some a=>
  simp at h
  cases o2 with
  | none=>rfl
  | some c=>simp[xe,tX,Ao,h]
theorem LD {N:Nat} {o1 o2:Option (Tm N)} (h:(o2.isSome && o2.all fun z=>aU ⟨N,z⟩==1)=false):xe o1 o2=none:=by
 cases o1 with
 | none=>rfl
 | some a=>
  cases o2 with
  | none=>rfl
  | some c=>
   simp at h
   simp[xe,tX,Ao,h]
theorem LB {N:Nat} {o1 o2:Option (Tm N)} {u v:Int} (h1:true=(o1.isSome && o1.all fun z=>aU ⟨N,z⟩==1)) (h2:true=(o2.isSome && o2.all fun z=>aU ⟨N,z⟩==1)) (k1:∀z,o1=some z->u=nR N z) (k2:∀z,o2=some z->v=nR N z) (l1:Qt o1) (l2:Qt o2):
    xe o1 o2=(if -1099511627776<=u+v/\u+v<=1099511627776 then some (aF 1 (u+v) N)else none)/\(-1099511627776<=u/\u<=1099511627776)/\(-1099511627776<=v/\v<=1099511627776):=by
 cases o1 with
 | none=>simp at h1
 | some a=>
  cases o2 with
  | none=>simp at h2
  | some c=>
   have e1:aU ⟨N,a⟩=1:=by simpa using h1.symm
   have e2:aU ⟨N,c⟩=1:=by simpa using h2.symm
   rw[k1 a rfl,k2 c rfl]
   refine⟨?_,l1 a rfl e1,l2 c rfl e2⟩
   simp[xe,tX,Ao,e1,e2,kr]
theorem iC:bR 0:=by simp[bR]
theorem jK (N:Nat) (k u:Int) (hk:bR k) (hu:bR u) (B:Nat) (w:World) (P:Nat->Prop):In B w (N+1) (aF k u N)/\Off P (N+1) (aF k u N):=
 ⟨⟨⟨hk,hu,Nat.zero_le _,Nat.zero_le _,Nat.zero_le _⟩,Or.inl rfl⟩,Or.inl rfl⟩
theorem yC (N:Nat) (k u:Int):same (N+1) (aF k u N) (N+1) (aF k u N)=true:=aZ rfl rfl
theorem jl {N:Nat} {w w':World} (hb:Below w.heap.size w w'):jd (N+1) none w (.returned (.tuple #[.agg #[.int .i64 0,.int .i64 0,.string .empty,.slice none 0 0],.bool false])) w':=
 ⟨aF 0 0 N,false,rfl,hb,(jK N 0 0 iC iC _ _ (fun _=>True)).1,(jK N 0 0 iC iC 0 w _).2,rfl,fun z hz=>by cases hz⟩
theorem xY {N:Nat} {w w':World} (hb:Below w.heap.size w w') (k u:Int) (hk:bR k) (hu:bR u):jd (N+1) (some (aF k u N)) w (.returned (.tuple #[.agg #[.int .i64 k,.int .i64 u,.string .empty,.slice none 0 0],.bool true])) w':=
 ⟨aF k u N,true,rfl,hb,(jK N k u hk hu _ _ (fun _=>True)).1,(jK N k u hk hu 0 w _).2,rfl,fun z hz=>by obtain rfl:=Option.some.inj hz;exact yC N k u⟩
theorem kR (w:World) (o1 o2 o3 o4:Obj):Below w.heap.size w ((((w.alloc o1).alloc o2).alloc o3).alloc o4):=((((Below.refl _ _).alloc (Nat.le_refl _) _).alloc (by simp) _).alloc (by simp;omega) _).alloc (by simp;omega) _
def Box0 (q:Nat) (w:World):Prop:=(w.cell? ⟨q,0,none⟩=some (.int .i64 0)/\w.cell? ⟨q,1,none⟩=some (.int .i64 0)/\w.cell? ⟨q,2,none⟩=some (.string .empty)/\w.cell? ⟨q,3,none⟩=some (.slice none 0 0))/\(w.frozen? ⟨q,0,none⟩=false/\w.frozen? ⟨q,1,none⟩=false/\w.frozen? ⟨q,2,none⟩=false/\w.frozen? ⟨q,3,none⟩=false)/\q<w.heap.size
theorem Box0.below {q:Nat} {w w':World} (h:Box0 q w) (hb:Below w.heap.size w w'):Box0 q w':=by
 obtain⟨⟨h0,h1,h2,h3⟩,⟨f0,f1,f2,f3⟩,hq⟩:=h
 have hc:=fun o=>hb.cell (p:=⟨q,o,none⟩) hq
 have hf:=fun o=>hb.frozen (p:=⟨q,o,none⟩) hq
 exact⟨⟨(hc 0).trans h0,(hc 1).trans h1,(hc 2).trans h2,(hc 3).trans h3⟩,⟨(hf 0).trans f0,(hf 1).trans f1,(hf 2).trans f2,(hf 3).trans f3⟩,Nat.lt_of_lt_of_le hq hb.size⟩
theorem DC {w w':World} {s0 s1 x0 x1 x2 x3 y0 y1 y2 y3:Value} {t1 t2 t3 t4:TypeId} (h:Below ((((w.alloc (.cells #[s0,s1] t1)).alloc (.cells #[x0,x1,x2,x3] t2)).alloc (.cells #[y0,y1,y2,y3] t3)).alloc (.cells #[.int .i64 0,.int .i64 0,.string .empty,.slice none 0 0] t4)).heap.size ((((w.alloc (.cells #[s0,s1] t1)).alloc (.cells #[x0,x1,x2,x3] t2)).alloc (.cells #[y0,y1,y2,y3] t3)).alloc (.cells #[.int .i64 0,.int .i64 0,.string .empty,.slice none 0 0] t4)) w'):
    (w'.cell? ⟨w.heap.size,0,none⟩=some s0/\w'.cell? ⟨w.heap.size,1,none⟩=some s1)/\
    (w'.cell? ⟨w.heap.size+1+1,0,none⟩=some y0/\w'.cell? ⟨w.heap.size+1+1,1,none⟩=some y1/\w'.cell? ⟨w.heap.size+1+1,2,none⟩=some y2/\w'.cell? ⟨w.heap.size+1+1,3,none⟩=some y3)/\Box0 (w.heap.size+1+1+1) w':=by
 have hs:=h.size
 simp at hs
 have hc:=fun o=>h.cell (p:=⟨w.heap.size,o,none⟩) (by simp;omega)
 have hd:=fun o=>h.cell (p:=⟨w.heap.size+1+1,o,none⟩) (by simp;try omega)
 have hz:=fun o=>h.cell (p:=⟨w.heap.size+1+1+1,o,none⟩) (by simp)
 have hf:=fun o=>h.frozen (p:=⟨w.heap.size+1+1+1,o,none⟩) (by simp)
 exact⟨⟨(hc 0).trans (by simp[go_sem]),(hc 1).trans (by simp[go_sem])⟩,⟨(hd 0).trans (by simp[go_sem]),(hd 1).trans (by simp[go_sem]),(hd 2).trans (by simp[go_sem]),(hd 3).trans (by simp[go_sem])⟩,
  ⟨(hz 0).trans (by simp[go_sem]),(hz 1).trans (by simp[go_sem]),(hz 2).trans (by simp[go_sem]),(hz 3).trans (by simp[go_sem])⟩,⟨(hf 0).trans (by simp[go_sem]),(hf 1).trans (by simp[go_sem]),(hf 2).trans (by simp[go_sem]),(hf 3).trans (by simp[go_sem])⟩,by omega⟩
theorem bL {w w':World} {q:Nat} (h:Below w.heap.size w w') (hq:w.heap.size<=q) (v0 v1 v2 v3:Value):Below w.heap.size w (bK w' q 0 v0 v1 v2 v3):=
 ⟨h.os,h.tape,h.output,Nat.le_trans h.size (Nat.le_of_eq (aJ _ _ _ _).symm),fun k hk=>(aA (by omega) _ _ _ _).trans (h.block k hk)⟩
theorem Me (N:Nat) (o1 o2:Option (Tm N)) (l1:Hid (Qt o1)) (l2:Hid (Qt o2)) (a:Option Addr) (c:Nat) (self:Int) (x0 x1:Int) (x2:ByteArray) (xa:Option Addr) (xl xc:Nat) (y0 y1:Int) (y2:ByteArray) (ya:Option Addr) (yl yc:Nat) (w:World)
    (HX:Hid (∀w1,Below w.heap.size w w1->Calls Tryz.prog 149 #[.agg #[.slice a 4 c,.int .i64 self],.agg #[.int .i64 x0,.int .i64 x1,.string x2,.slice xa xl xc]] w1 (O8 o1 w1)))
    (HY:Hid (∀w1,Below w.heap.size w w1->Calls Tryz.prog 149 #[.agg #[.slice a 4 c,.int .i64 self],.agg #[.int .i64 y0,.int .i64 y1,.string y2,.slice ya yl yc]] w1 (O8 o2 w1))):
    Calls Tryz.prog 144 #[.agg #[.slice a 4 c,.int .i64 self],.agg #[.int .i64 x0,.int .i64 x1,.string x2,.slice xa xl xc],.agg #[.int .i64 y0,.int .i64 y1,.string y2,.slice ya yl yc]] w (jd (N+1) (xe o1 o2) w):=by
 obtain⟨o,ho⟩:∃o,o=xe o1 o2:=⟨_,rfl⟩
 rw[<-ho]
 have HO:=hide ho
 clear ho
 go_enter Tryz.func144,Tryz.ntmps144
 go_wp2_with fail
 refine(HX.out _ (kR _ _ _ _ _)).mono ?_
 rintro e w2 ⟨u,r,rfl,H⟩
 obtain⟨⟨s0,s1⟩,⟨d0,d1,d2,d3⟩,hbx⟩:=DC H.out.1
 have HBX:=hide hbx
 have HB:Hid (Below w.heap.size w w2):=(kR _ _ _ _ _).trans (H.out.1.mono (kR _ _ _ _ _).size)
 have HR:Hid (r=_/\_):=H.out.2
 clear HX H hbx
 cases r
 ·have HF2:Hid (o=none):=HO.out.trans (NT HR.out.1.symm)
  obtain⟨⟨z0,z1,z2,z3⟩,⟨f0,f1,f2,f3⟩,_⟩:=HBX.out
  go_wp2_with fail
  rw[HF2.out]
  exact bodyPost_ret (v:=.tuple #[.agg #[.int .i64 0,.int .i64 0,.string .empty,.slice none 0 0],.bool false]) (by simp[results,Tryz.results144,go_sem,z0,z1,z2,z3];rfl) rfl (jl (bL HB.out (by omega) _ _ _ _))
 ·go_wp2_with fail
  refine(HY.out _ HB.out).mono ?_
  rintro e w3 ⟨v,r,rfl,H⟩
  have HB3:Hid (Below w.heap.size w w3):=HB.out.trans (H.out.1.mono HB.out.size)
  have HR3:Hid (r=_/\_):=H.out.2
  have HBX3:=hide (HBX.out.below H.out.1)
  obtain⟨⟨z0,z1,z2,z3⟩,⟨f0,f1,f2,f3⟩,_⟩:=HBX3.out
  clear HY H HB s0 s1 d0 d1 d2 d3 HBX
  cases r
  ·have HF2:Hid (o=none):=HO.out.trans (LD HR3.out.1.symm)
   go_wp2_with fail
   rw[HF2.out]
   exact bodyPost_ret (v:=.tuple #[.agg #[.int .i64 0,.int .i64 0,.string .empty,.slice none 0 0],.bool false]) (by simp[results,Tryz.results144,go_sem,z0,z1,z2,z3];rfl) rfl (jl (bL HB3.out (by omega) _ _ _ _))
  ·obtain⟨es,⟨u1,u2⟩,v1,v2⟩:=LB HR.out.1 HR3.out.1 HR.out.2 HR3.out.2 l1.out l2.out
   have HF:Hid (o=if -1099511627776<=u+v/\u+v<=1099511627776 then some (aF 1 (u+v) N)else none):=HO.out.trans es
   have e1:IntKind.i64.wrap (u+v)=u+v:=by rw[IntKind.wrap];simp[IntKind.bits,IntKind.signed];omega
   clear HO HR HR3 es l1 l2
   by_cases h1:u+v< -1099511627776
   ·have b1:decide (u+v< -1099511627776)=true:=by simpa using h1
    have HF2:Hid (o=none):=HF.out.trans (if_neg (by omega))
    go_wp2_with fail
    rw[HF2.out]
    exact bodyPost_ret (v:=.tuple #[.agg #[.int .i64 0,.int .i64 0,.string .empty,.slice none 0 0],.bool false]) (by simp[results,Tryz.results144,go_sem,z0,z1,z2,z3];rfl) rfl (jl (bL HB3.out (by omega) _ _ _ _))
   ·have b1:decide (u+v< -1099511627776)=false:=by simpa using h1
    by_cases h2:1099511627776<u+v
    ·have b2:decide (1099511627776<u+v)=true:=by simpa using h2
     have HF2:Hid (o=none):=HF.out.trans (if_neg (by omega))
     go_wp2_with fail
     rw[HF2.out]
     exact bodyPost_ret (v:=.tuple #[.agg #[.int .i64 0,.int .i64 0,.string .empty,.slice none 0 0],.bool false]) (by simp[results,Tryz.results144,go_sem,z0,z1,z2,z3];rfl) rfl (jl (bL HB3.out (by omega) _ _ _ _))
    ·have b2:decide (1099511627776<u+v)=false:=by simpa using h2
     have HF2:Hid (o=some (aF 1 (u+v) N)):=HF.out.trans (if_pos (by omega))
     go_wp2_with fail
     rw[HF2.out]
     exact bodyPost_ret (v:=.tuple #[.agg #[.int .i64 1,.int .i64 (u+v),.string .empty,.slice none 0 0],.bool true]) (by simp[results,Tryz.results144,go_sem,z0,z1,z2,z3];rfl) rfl (xY (bL HB3.out (by omega) _ _ _ _) 1 (u+v) (by simp[bR]) ⟨by omega,by omega⟩)
def vals {n N:Nat} (f:Tm n->Option (Tm N)) (p:List (Tm n)):List (Tm N):=p.map fun y=>(f y).getD (lift N 0 ())
def Had {n N:Nat} (f:Tm n->Option (Tm N)) (p:List (Tm n)) (k:Nat):Prop:=∀(i:Nat) (y:Tm n),i<k->p[i]? =some y->(f y).isSome=true
theorem Lv {n N:Nat} {f:Tm n->Option (Tm N)} {p:List (Tm n)} {k:Nat} (h:Had f p k) (hk:p.length<=k):bF f p=some (vals f p):=by
 refine xU f _ p fun y hy=> ?_
 obtain⟨i,hi⟩:=List.getElem?_of_mem hy
 have hlt:=(List.getElem?_eq_some_iff.1 hi).1
 have:=h i y (by omega) hi
 cases hf:f y with
 | none=>rw[hf]at this;cases this
 | some z=>rfl
theorem Had.next {n N:Nat} {f:Tm n->Option (Tm N)} {p:List (Tm n)} {k:Nat} {x:Tm n} (h:Had f p k) (hx:p[k]? =some x) (hf:true=(f x).isSome):Had f p (k+1):=by
 intro i y hi hy
 by_cases e:i=k
 ·subst e
  rw[hx]at hy
  obtain rfl:=Option.some.inj hy
  exact hf.symm
 ·exact h i y (by omega) hy
theorem NL {n N:Nat} {f:Tm n->Option (Tm N)} {p:List (Tm n)} {k:Nat} {x:Tm n} (hx:p[k]? =some x) (hf:true=(f x).isSome):∃z,(vals f p)[k]? =some z/\f x=some z:=by
 cases h:f x with
 | none=>rw[h]at hf;cases hf
 | some z=>exact⟨z,by simp[vals,hx,h],rfl⟩
theorem Gy {N:Nat} {P:List (Tm N)} {w wr:World} {g len k:Nat} {l:List (Tm N)} (h:CpP N P len g k l wr) (hl:P.length=len) (hk:k=len) (hb:Below w.heap.size w wr) (hm:len<=8) (q:Nat) (hq:w.heap.size<=q) (hq0:q<g) (v0 v1 v2 v3:Value):
    jd (N+1) (some (bH N P)) w (.returned (.tuple #[.agg #[.int .i64 4,.int .i64 0,.string .empty,.slice (some ⟨g,0,none⟩) len len],.bool true])) (bK wr q 0 v0 v1 v2 v3):=by
 obtain⟨h1,h2,h3,h4⟩:=h
 subst hk
 rw[List.take_of_length_le (by omega)]at h4
 rw[Nat.sub_self,List.replicate_zero,List.append_nil]at h2
 refine⟨((4,0,.empty),(some ⟨g,0,none⟩,k),l),true, ?_,bL hb hq _ _ _ _, ?_, ?_,rfl,fun z hz=> ?_⟩
 ·simp only[val,h1]
 ·refine⟨⟨by simp[bR],by simp[bR],Nat.zero_le _,by simp only;omega,by unfold maxLen;simp only;omega⟩,Or.inr ⟨g,0,rfl,by rw[aJ];exact h2.lt.2,fun i y hy=> ?_⟩⟩
  obtain⟨k2,k3⟩:=h3 y (List.mem_of_getElem? hy)
  have hc:=h2.cells i ⟨N,y⟩ (by simp[hy])
  refine⟨Held.block (aA (by omega) _ _ _ _) ?_, ?_⟩
  ·cases N with
   | zero=>exact k2.elim
   | succ N=>
    rw[Nat.zero_add]
    exact hc
  ·rw[aJ]
   exact In.off (P:=fun x=>g<x) (fun x hx=>aA (by omega) _ _ _ _) k3 k2
 ·exact Or.inr ⟨g,0,rfl,by omega,fun i y hy=>(h3 y (List.mem_of_getElem? hy)).2.mono fun x hx=>by omega⟩
 ·obtain rfl:=Option.some.inj hz
  exact aZ rfl h4
theorem KC {n N:Nat} (f:Tm n->Option (Tm N)) (p:List (Tm n)):(vals f p).length=p.length:=by simp[vals]
theorem CpP.grow {N:Nat} {P:List (Tm N)} {len g k:Nat} {l:List (Tm N)} {w w':World} (h:CpP N P len g k l w) (hb:Below w.heap.size w w'):CpP N P len g k l w':=by
 obtain⟨h1,h2,h3,h4⟩:=h
 exact⟨h1,h2.below hb,fun y hy=>⟨((h3 y hy).1.below hb).mono hb.size,(h3 y hy).2⟩,h4⟩
theorem Box0.block {q:Nat} {w w':World} (h:Box0 q w) (hb:w'.heap[q]? =w.heap[q]?) (hs:w.heap.size<=w'.heap.size):Box0 q w':=by
 obtain⟨⟨h0,h1,h2,h3⟩,⟨f0,f1,f2,f3⟩,hq⟩:=h
 have hc:=fun o=>aK hb o
 have hf:∀o,w'.frozen? ⟨q,o,none⟩=w.frozen? ⟨q,o,none⟩:=fun o=>by simp[World.frozen?,hb]
 exact⟨⟨(hc 0).trans h0,(hc 1).trans h1,(hc 2).trans h2,(hc 3).trans h3⟩,⟨(hf 0).trans f0,(hf 1).trans f1,(hf 2).trans f2,(hf 3).trans f3⟩,Nat.lt_of_lt_of_le hq hs⟩
theorem uK {w w':World} (h:w.grownBy w' none):Below w.heap.size w w':=⟨h.os,h.tape,h.output,h.size,fun k hk=>h.block k hk (by simp)⟩
theorem zI {w w':World} {s0 s1:Value} {t1 t2:TypeId} (hg:((w.alloc (.cells #[s0,s1] t1)).alloc (.cells #[.int .i64 0,.int .i64 0,.string .empty,.slice none 0 0] t2)).grownBy w' none):
    Below w.heap.size w w'/\(w'.cell? ⟨w.heap.size,0,none⟩=some s0/\w'.cell? ⟨w.heap.size,1,none⟩=some s1)/\Box0 (w.heap.size+1) w':=by
 have h:=uK hg
 have hs:=h.size
 simp at hs
 have h0:Below w.heap.size w ((w.alloc (.cells #[s0,s1] t1)).alloc (.cells #[.int .i64 0,.int .i64 0,.string .empty,.slice none 0 0] t2)):=((Below.refl _ _).alloc (Nat.le_refl _) _).alloc (by simp) _
 have hc:=fun o=>h.cell (p:=⟨w.heap.size,o,none⟩) (by simp;omega)
 have hz:=fun o=>h.cell (p:=⟨w.heap.size+1,o,none⟩) (by simp)
 have hf:=fun o=>h.frozen (p:=⟨w.heap.size+1,o,none⟩) (by simp)
 exact⟨h0.trans (h.mono h0.size),⟨(hc 0).trans (by simp[go_sem]),(hc 1).trans (by simp[go_sem])⟩,
  ⟨(hz 0).trans (by simp[go_sem]),(hz 1).trans (by simp[go_sem]),(hz 2).trans (by simp[go_sem]),(hz 3).trans (by simp[go_sem])⟩,⟨(hf 0).trans (by simp[go_sem]),(hf 1).trans (by simp[go_sem]),(hf 2).trans (by simp[go_sem]),(hf 3).trans (by simp[go_sem])⟩,by omega⟩
theorem Bv (m:Nat) (b:List (Tm m)) (self:Int) (n:Nat) (ih:Hid (PR m b self n)) (p:List (Tm n)) (len:Nat) (hpl:Hid (p.length=len)) (pa:Option Addr) (pc:Nat) (a:Option Addr) (c B:Nat) (w:World)
    (hlen:len<=8) (hp:Hid (Lies B w n p pa)) (hrp:Hid (∀y∈p,ai ⟨n,y⟩)) (hb:Hid (Lies B w m b a)) (hB:B<=w.heap.size):
    Calls Tryz.prog 145 #[.agg #[.slice a 4 c,.int .i64 self],.slice pa len pc] w (jd (m+n+1) ((bF (fun y=>vl m b self n y) p).map (bH (m+n))) w):=by
 obtain⟨o,ho⟩:∃o,o=(bF (fun y=>vl m b self n y) p).map (bH (m+n)):=⟨_,rfl⟩
 rw[<-ho]
 have HO:=hide ho
 clear ho
 obtain⟨it,hit,htz0,htz1,htz2⟩:=info_parts gu
 go_enter Tryz.func145,Tryz.ntmps145
 go_wp2_with (at_make;refine wpList_make_full _ rfl _ _ 28 rfl _ 30 it _ 4 Tryz.underlying28 hit htz0 htz1 _ _ _ _ len rfl rfl rfl rfl (by rw[htz2];omega) (by unfold maxLen;omega) (Nat.le_refl _) ?_;intro w1 hown1 hgrow1;have HST:=hide (qd (m+n) (vals (fun y=>vl m b self n y) p) len hown1);have HB1:=hide (uK hgrow1);have HW0:=hide (zI hgrow1);clear hown1 hgrow1 hit htz0 htz1 htz2)
 have es:((w.alloc (.cells #[.slice a 4 c,.int .i64 self] 205)).alloc (.cells #[.int .i64 0,.int .i64 0,.string ⟨#[]⟩,.slice none 0 0] 30)).heap.size=w.heap.size+1+1:=by simp
 rw[es]at HST
 clear es HB1
 obtain⟨hb1,hc1,hz1⟩:=HW0.out
 have HI:Hid (Below w.heap.size w w1/\(w1.cell? ⟨w.heap.size,0,none⟩=some (.slice a 4 c)/\w1.cell? ⟨w.heap.size,1,none⟩=some (.int .i64 self))/\Box0 (w.heap.size+1) w1/\Had (fun y=>vl m b self n y) p 0/\∃l,CpP (m+n) (vals (fun y=>vl m b self n y) p) len (w.heap.size+1+1) 0 l w1):=
  ⟨hb1,hc1,hz1,fun i y hi _=>by omega,[],HST.out⟩
 clear HW0 HST hb1 hc1 hz1
 go_wp2_with fail
 go_loopw [16] (fun i wr=>∃k:Nat,k<=len/\i=.int .i64 k/\Hid (Below w.heap.size w wr/\(wr.cell? ⟨w.heap.size,0,none⟩=some (.slice a 4 c)/\wr.cell? ⟨w.heap.size,1,none⟩=some (.int .i64 self))/\Box0 (w.heap.size+1) wr/\Had (fun y=>vl m b self n y) p k/\∃l,CpP (m+n) (vals (fun y=>vl m b self n y) p) len (w.heap.size+1+1) k l wr)) (fun i _=>len-(intOf i).toNat)
 case atStart=>exact⟨0,by omega,rfl,HI.out⟩
 case round=>
  obtain⟨k,hk,rfl,HR⟩:=hrel
  clear HI
  obtain⟨HBr,⟨s0,s1⟩,HZ,HH,l,HL⟩:Hid (Below w.heap.size w wr)/\(wr.cell? ⟨w.heap.size,0,none⟩=some (.slice a 4 c)/\wr.cell? ⟨w.heap.size,1,none⟩=some (.int .i64 self))/\Hid (Box0 (w.heap.size+1) wr)/\Hid (Had (fun y=>vl m b self n y) p k)/\∃l,Hid (CpP (m+n) (vals (fun y=>vl m b self n y) p) len (w.heap.size+1+1) k l wr):=HR.out
  clear HR
  by_cases hlt:k<len
  ·obtain⟨x,hx⟩:∃x,p[k]? =some x:=⟨p[k]'(by rw[hpl.out];exact hlt),List.getElem?_eq_getElem _⟩
   obtain⟨pb,po,rfl,hpb,hpp⟩:∃pb po,pa=some ⟨pb,po,none⟩/\pb<B/\∀(i:Nat) (y:Tm n),p[i]? =some y->Held w pb (po+i*4) n y/\In B w n y:=by
    rcases hp.out with h|h
    ·rw[h]at hx;simp at hx
    ·exact h
   obtain⟨hx1,hx2⟩:=hpp k x hx
   have HX:=hide hx
   have HRX:=hide (hrp.out x (List.mem_of_getElem? hx))
   replace hx1:=hx1.below (HBr.out.mono hB) hpb
   replace hx2:=hx2.below (HBr.out.mono hB)
   have hBr:B<=wr.heap.size:=Nat.le_trans hB HBr.out.size
   have HV:Hid (∀w1,Below wr.heap.size wr w1->Calls Tryz.prog 127 #[.agg #[.slice a 4 c,.int .i64 self],val n x] w1 (jd (m+n) (vl m b self n x) w1)):=
    fun w1 h1=>ih.out x a c B w1 (hx2.below (h1.mono hBr)) HRX.out ((hb.out.below (HBr.out.mono hB)).below (h1.mono hBr)) (Nat.le_trans hBr h1.size)
   obtain⟨ox,hox⟩:∃ox,ox=vl m b self n x:=⟨_,rfl⟩
   rw[<-hox]at HV
   have HOX:=hide hox
   clear hpp hx hp hox hx2
   cases n with
   | zero=>exact hx1.elim
   | succ n=>
   obtain⟨x0,x1,x2,x3⟩:=hx1
   have e3:val (n+1) x=.agg #[.int .i64 x.1.1,.int .i64 x.1.2.1,.string x.1.2.2,.slice x.2.1.1 x.2.2.length x.2.1.2]:=rfl
   rw[e3]at HV
   clear e3
   generalize x.2.2.length=xl at*
   have hk1:(0:Int)<=(k:Int):=by omega
   have hk2:(k:Int)<(len:Int):=by omega
   have hpw:pb<wr.heap.size:=by omega
   have hsw:w.heap.size<wr.heap.size:=by have:=HZ.out.2.2;omega
   go_wp2_with fail
   refine(HV.out _ ((Below.refl _ _).alloc (Nat.le_refl _) _)).mono ?_
   rintro e w2 ⟨y,r,rfl,HY⟩
   have HB2:Hid (Below wr.heap.size wr w2):=((Below.refl _ _).alloc (Nat.le_refl _) _).trans (HY.out.1.mono (by simp))
   have HW2:Hid (Below w.heap.size w w2):=HBr.out.trans (HB2.out.mono HBr.out.size)
   have HZ2:=hide (HZ.out.below HB2.out)
   replace s0:=(af HB2.out _ _ hsw).trans s0
   replace s1:=(af HB2.out _ _ hsw).trans s1
   have e3:val (m+(n+1)) y=.agg #[.int .i64 y.1.1,.int .i64 y.1.2.1,.string y.1.2.2,.slice y.2.1.1 y.2.2.length y.2.1.2]:=rfl
   rw[e3]
   clear HV x0 x1 x2 x3 HZ e3
   cases r
   ·have HF:Hid (o=none):=by
      have h1:vl m b self (n+1) x=none:=by
       have:=HY.out.2.2.2.1
       rw[<-HOX.out]
       cases ox with
       | none=>rfl
       | some z=>cases this
      show o=none
      rw[HO.out,kE _ p k x HX.out h1]
      rfl
    obtain⟨⟨z0,z1,z2,z3⟩,⟨f0,f1,f2,f3⟩,hzq⟩:=HZ2.out
    clear HY HL HH
    go_wp2_with fail
    rw[HF.out]
    exact bodyPost_ret (v:=.tuple #[.agg #[.int .i64 0,.int .i64 0,.string .empty,.slice none 0 0],.bool false]) (by simp[results,Tryz.results145,go_sem,z0,z1,z2,z3,hzq];rfl) rfl (jl ((bL HW2.out (by omega) _ _ _ _).alloc (by rw[aJ];omega) _))
   ·have hT:true=(vl m b self (n+1) x).isSome:=by rw[<-HOX.out];exact HY.out.2.2.2.1
    obtain⟨z,hz1,hz2⟩:=NL (f:=fun y=>vl m b self (n+1) y) HX.out hT
    have HN:=hide (HH.out.next HX.out hT)
    have HST:=hide (HL.out.step hlt z hz1 HB2.out y HY.out.2.1 (HY.out.2.2.1.mono fun q hq=>by have:=HL.out.2.1.lt.2;simp at hq;omega) (HY.out.2.2.2.2 z (by rw[HOX.out];exact hz2)))
    have HH1:=hide (HL.out.2.1.below HB2.out)
    have HP:Hid (Below w.heap.size w (iJ w2 (w.heap.size+1+1) (k*4) (gZ (m+(n+1)) y))):=by
     have h1:=HW2.out
     exact⟨h1.os,h1.tape,h1.output,Nat.le_trans h1.size (Nat.le_of_eq (aJ _ _ _ _).symm),fun q hq=>(aA (by omega) _ _ _ _).trans (h1.block q hq)⟩
    have HIV:Hid (∀o:Obj,Below w.heap.size w ((iJ w2 (w.heap.size+1+1) (k*4) (gZ (m+(n+1)) y)).alloc o)/\(((iJ w2 (w.heap.size+1+1) (k*4) (gZ (m+(n+1)) y)).alloc o).cell? ⟨w.heap.size,0,none⟩=some (.slice a 4 c)/\((iJ w2 (w.heap.size+1+1) (k*4) (gZ (m+(n+1)) y)).alloc o).cell? ⟨w.heap.size,1,none⟩=some (.int .i64 self))/\Box0 (w.heap.size+1) ((iJ w2 (w.heap.size+1+1) (k*4) (gZ (m+(n+1)) y)).alloc o)/\Had (fun y=>vl m b self (n+1) y) p (k+1)/\∃l,CpP (m+(n+1)) (vals (fun y=>vl m b self (n+1) y) p) len (w.heap.size+1+1) (k+1) l ((iJ w2 (w.heap.size+1+1) (k*4) (gZ (m+(n+1)) y)).alloc o)):=by
     intro o
     have hal:Below (iJ w2 (w.heap.size+1+1) (k*4) (gZ (m+(n+1)) y)).heap.size (iJ w2 (w.heap.size+1+1) (k*4) (gZ (m+(n+1)) y)) ((iJ w2 (w.heap.size+1+1) (k*4) (gZ (m+(n+1)) y)).alloc o):=(Below.refl _ _).alloc (Nat.le_refl _) _
     have hsz:(iJ w2 (w.heap.size+1+1) (k*4) (gZ (m+(n+1)) y)).heap.size=w2.heap.size:=aJ _ _ _ _
     have hg2:=HH1.out.lt.2
     refine⟨HP.out.trans (hal.mono HP.out.size),⟨?_, ?_⟩, ?_,HN.out,l++ [y],HST.out.grow hal⟩
     ·exact(af hal _ _ (by omega)).trans ((aK (aA (by omega) _ _ _ _) _).trans s0)
     ·exact(af hal _ _ (by omega)).trans ((aK (aA (by omega) _ _ _ _) _).trans s1)
     ·refine Box0.below ?_ hal
      exact HZ2.out.block (aA (by omega) _ _ _ _) (Nat.le_of_eq hsz.symm)
    obtain⟨zz,hzz⟩:∃zz,(l.map (fun x=>(⟨m+(n+1),x⟩:An))++List.replicate (len-k) zA)[k]? =some zz:=⟨_,List.getElem?_eq_getElem (by simp[HL.out.1];omega)⟩
    obtain⟨c0,c1,c2,c3⟩:=HH1.out.cells k zz hzz
    have hf:=fun j=>HH1.out.free j
    have hg2:w.heap.size+1+1<w2.heap.size:=HH1.out.lt.2
    clear HY HL HH HB2 HBr HST HN HP HH1 hzz HZ2 hz1 hz2 hT
    go_wp2_with fail
    go_roundw
    case rel=>exact⟨k+1,by omega,by go_num,HIV.out _⟩
    case measure=>simp[intOf];omega
  ·obtain rfl:k=len:=by omega
   have HF:Hid (o=some (bH (m+n) (vals (fun y=>vl m b self n y) p))):=by
    show o=_
    rw[HO.out,Lv HH.out (by rw[hpl.out];exact Nat.le_refl _)]
    rfl
   have HT:=fun v0 v1 v2 v3=>hide (Gy HL.out (by rw[KC];exact hpl.out) rfl HBr.out hlen (w.heap.size+1) (by omega) (by omega) v0 v1 v2 v3)
   obtain⟨⟨z0,z1,z2,z3⟩,⟨f0,f1,f2,f3⟩,hzq⟩:=HZ.out
   clear HH HL HBr hp hb
   go_wp2_with fail
   rw[HF.out]
   exact bodyPost_ret (v:=.tuple #[.agg #[.int .i64 4,.int .i64 0,.string .empty,.slice (some ⟨w.heap.size+1+1,0,none⟩) k k],.bool true]) (by simp[results,Tryz.results145,go_sem,z0,z1,z2,z3];rfl) rfl (HT _ _ _ _).out
end Go.Proofs.YtmbjgiaebneodaaGreat
