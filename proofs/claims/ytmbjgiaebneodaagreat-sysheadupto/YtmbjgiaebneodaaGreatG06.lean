/- What is proved here: plain facts and contracts that the claimed theorem stands on. No condition but those that each names. -/
import Derived.Test.YtmbjgiaebneodaaGreatG05
import Derived.Laws.MakeOwn
namespace Go.Proofs.YtmbjgiaebneodaaGreat
open Go.RowKit
set_option maxHeartbeats 1000000
def okB (n:Nat) (y:Tm n):Bool:=aQ n y==0 && (aU ⟨n,y⟩==6 || ja n y)
def eX (n:Nat) (q:List (Tm n)):Bool:=decide (q.length=4) && q.all (okB n)
def Lies (B:Nat) (w:World) (n:Nat) (q:List (Tm n)) (a:Option Addr):Prop:=
 q=[]∨∃b o,a=some ⟨b,o,none⟩/\b<B/\∀(i:Nat) (y:Tm n),q[i]? =some y->Held w b (o+i*4) n y/\In B w n y
theorem Lies.below {B:Nat} {w w':World} (h:Below B w w') {n:Nat} {q:List (Tm n)} {a:Option Addr} (k:Lies B w n q a):Lies B w' n q a:=by
 rcases k with hp|⟨b,o,e,hb,hp⟩
 ·exact Or.inl hp
 ·exact Or.inr ⟨b,o,e,hb,fun i y hy=>⟨(hp i y hy).1.below h hb,(hp i y hy).2.below h⟩⟩
theorem qy {α:Type} (f:α->Bool) (q:List α) (k:Nat) (y:α) (h:q[k]? =some y):(q.drop k).all f=(f y && (q.drop (k+1)).all f):=by
 obtain⟨h1,e1⟩:=List.getElem?_eq_some_iff.1 h
 rw[List.drop_eq_getElem_cons h1,e1]
 rfl
theorem Oe (a:Option Addr) (len pc:Nat) (w:World) (_hl:len<=9223372036854775807) (h:((len:Int) !=4)=true):
    Calls Tryz.prog 121 #[.slice a len pc] w fun e w'=>e=.returned (.bool false)/\w'=w:=by
 go_enter Tryz.func121,Tryz.ntmps121
 go_wp2_with fail
 go_ret
 exact⟨rfl,rfl⟩
theorem GH (n:Nat) (q:List (Tm n)) (pb po pc:Nat) (B:Nat) (w:World) (hql:Hid (q.length=4)) (hpb:pb<B)
    (hp:∀(i:Nat) (y:Tm n),q[i]? =some y->Held w pb (po+i*4) n y/\In B w n y) (hN:∀y∈q,(nodes n y).length<=2097152) (hB:B<=w.heap.size):
    Calls Tryz.prog 121 #[.slice (some ⟨pb,po,none⟩) 4 pc] w fun e w'=>e=.returned (.bool (q.all (okB n)))/\Below w.heap.size w w':=by
 go_enter Tryz.func121,Tryz.ntmps121
 go_wp2_with fail
 go_loopw [10] (fun i wr=>∃k:Nat,k<=4/\i=.int .i64 k/\Below w.heap.size w wr/\Hid ((q.drop k).all (okB n)=q.all (okB n))) (fun i _=>4-(intOf i).toNat)
 case atStart=>exact⟨0,by omega,rfl,Below.refl _ _,rfl⟩
 case round=>
  obtain⟨k,hk,rfl,hb,hd⟩:=hrel
  by_cases hlt:k<4
  ·obtain⟨x,hx⟩:∃x,q[k]? =some x:=⟨q[k]'(by rw[hql.out];exact hlt),List.getElem?_eq_getElem _⟩
   have HS:=hide (qy (okB n) q k x hx)
   obtain⟨hx1,hx2⟩:=hp k x hx
   have hNx:=hN x (List.mem_of_getElem? hx)
   replace hx1:=hx1.below (hb.mono hB) hpb
   replace hx2:=hx2.below (hb.mono hB)
   clear hp hx hN
   cases n with
   | zero=>exact hx1.elim
   | succ n=>
   obtain⟨x0,x1,x2,x3⟩:=hx1
   have hB':B<=wr.heap.size:=Nat.le_trans hB hb.size
   have HCK:Hid (∀w1,Below wr.heap.size wr w1->Calls Tryz.prog 42 #[.agg #[.int .i64 x.1.1,.int .i64 x.1.2.1,.string x.1.2.2,.slice x.2.1.1 x.2.2.length x.2.1.2]] w1 fun e w'=>e=.returned (.int .i64 (aQ (n+1) x))/\Below w1.heap.size w1 w'):=
    fun w1 h1=>dh (n+1) x B w1 (hx2.below (h1.mono hB')) (Nat.le_trans hB' h1.size) hNx
   have HCL:Hid (∀w1,Below wr.heap.size wr w1->Calls Tryz.prog 43 #[.agg #[.int .i64 x.1.1,.int .i64 x.1.2.1,.string x.1.2.2,.slice x.2.1.1 x.2.2.length x.2.1.2]] w1 fun e w'=>e=.returned (.bool (av (n+1) x))/\Below w1.heap.size w1 w'):=
    fun w1 h1=>gN (n+1) x B w1 (hx2.below (h1.mono hB')) (Nat.le_trans hB' h1.size)
   have HOK:Hid (okB (n+1) x=(aQ (n+1) x==0 && (x.1.1==6 || av (n+1) x))):=by unfold Hid okB;rw[dQ];rfl
   clear hx2 hNx
   generalize x.2.2.length=xl at*
   generalize av (n+1) x=cl at*
   generalize aQ (n+1) x=ck at*
   generalize okB (n+1) x=ok at*
   have hk1:(0:Int)<=(k:Int):=by omega
   have hk2:(k:Int)<(4:Int):=by omega
   have hpw:pb<wr.heap.size:=by omega
   have HBA:Hid (∀o,Below wr.heap.size wr (wr.alloc o)):=fun o=>(Below.refl _ _).alloc (Nat.le_refl _) _
   go_wp2_with fail
   refine(HCK.out _ (HBA.out _)).mono ?_
   rintro e w1 ⟨rfl,hb1⟩
   obtain⟨⟨t0,t1,t2,t3⟩,_⟩:=boxed hb1
   have HB1:Hid (Below wr.heap.size wr w1):=(HBA.out _).trans (hb1.mono (by simp))
   have HLT:Hid (wr.heap.size<w1.heap.size):=by have:=hb1.size;simp at this;unfold Hid;omega
   clear hb1 x0 x1 x2 x3 HCK
   by_cases hck:ck=0
   ·have hck1:(ck !=0)=false:=by simp[hck]
    have HC0:Hid (ck=0):=hck
    clear hck
    go_wp2_with fail
    refine(iq _ _ _ _ _ _ _).mono ?_
    rintro e w2 ⟨rfl,hb2⟩
    obtain⟨t4,t5,t6,t7⟩:=lU HLT.out hb2 ⟨t0,t1,t2,t3⟩
    have HB2:Hid (Below wr.heap.size wr w2):=HB1.out.trans (hb2.mono HB1.out.size)
    clear hb2 t0 t1 t2 t3
    cases h6:x.1.1==6
    ·simp only[Bool.not_false]
     go_wp2_with fail
     refine(HCL.out _ HB2.out).mono ?_
     rintro e w3 ⟨rfl,hb3⟩
     have hb4:Below w.heap.size w w3:=hb.trans ((HB2.out.trans (hb3.mono HB2.out.size)).mono hb.size)
     clear hb3
     cases cl with
     | true=>
      go_wp2_with fail
      go_roundw
      case rel=>exact⟨k+1,by omega,by go_num,hb4,by rw[<-hd.out,HS.out,HOK.out,HC0.out];simp[Hid]⟩
      case measure=>simp[intOf];omega
     | false=>
      go_wp2_with fail
      go_ret
      exact⟨dH (by rw[<-hd.out,HS.out,HOK.out,HC0.out,h6];simp),hb4⟩
    ·simp only[Bool.not_true]
     have hb4:Below w.heap.size w w2:=hb.trans (HB2.out.mono hb.size)
     go_wp2_with fail
     go_roundw
     case rel=>exact⟨k+1,by omega,by go_num,hb4,by rw[<-hd.out,HS.out,HOK.out,HC0.out,h6];simp[Hid]⟩
     case measure=>simp[intOf];omega
   ·have hck1:(ck !=0)=true:=by simpa using hck
    have HC0:Hid ((ck==0)=false):=by simpa [Hid]using hck
    have hb4:Below w.heap.size w w1:=hb.trans (HB1.out.mono hb.size)
    clear hck
    go_wp2_with fail
    go_ret
    exact⟨dH (by rw[<-hd.out,HS.out,HOK.out,HC0.out];simp),hb4⟩
  ·go_wp2_with fail
   go_ret
   refine⟨dH ?_,hb⟩
   rw[<-hd.out,List.drop_eq_nil_of_le (by rw[hql.out];omega)]
   rfl
theorem BV (n:Nat) (q:List (Tm n)) (a:Option Addr) (pc B:Nat) (w:World) (h:Lies B w n q a) (hl:q.length<=9223372036854775807) (hN:∀y∈q,(nodes n y).length<=2097152) (hB:B<=w.heap.size):
    Calls Tryz.prog 121 #[.slice a q.length pc] w fun e w'=>e=.returned (.bool (eX n q))/\Below w.heap.size w w':=by
 unfold eX
 by_cases h4:q.length=4
 ·rcases h with h|⟨b,o,rfl,hb,hp⟩
  ·rw[h]at h4;simp at h4
  ·have hw:=GH n q b o pc B w h4 hb hp hN hB
   rw[h4]
   simpa using hw
 ·refine(Oe a q.length pc w hl (by simp;omega)).mono ?_
  rintro e w' ⟨rfl,rfl⟩
  exact⟨by simp[h4],Below.refl _ _⟩
def lift:(N:Nat)->(n:Nat)->Tm n->Tm N
 | 0,_,_=>()
 | _+1,0,_=>((0,0,.empty),(none,0),[])
 | N+1,n+1,x=>(x.1,x.2.1,x.2.2.map fun y=>lift N n y)
theorem Nk (N n:Nat) (x:Tm (n+1)):gZ (N+1) (lift (N+1) (n+1) x)=gZ (n+1) x:=by simp[gZ,aL,lift]
theorem yI (N n:Nat) (h:n<=N) (x:Tm n) (w:World) (b o:Nat) (k:Held w b o n x):Held w b o N (lift N n x):=by
 cases n with
 | zero=>exact k.elim
 | succ n=>
  obtain⟨N,rfl⟩:∃M,N=M+1:=⟨N-1,by omega⟩
  obtain⟨k0,k1,k2,k3⟩:=k
  exact⟨k0,k1,k2,by simpa [lift]using k3⟩
theorem nE:(N n:Nat)->n<=N->(x:Tm n)->(B:Nat)->(w:World)->In B w n x->In B w N (lift N n x)
 | _,0,_,_,_,_,k=>k.elim
 | 0,n+1,h,_,_,_,_=>by omega
 | N+1,n+1,h,x,B,w,k=>by
  obtain⟨k0,k1⟩:=k
  refine⟨by simpa [lift]using k0, ?_⟩
  rcases k1 with k1|⟨b,o,e,hb,k1⟩
  ·exact Or.inl (by simp[lift,k1])
  ·refine Or.inr ⟨b,o,e,hb,fun i y hy=> ?_⟩
   simp only[lift,List.getElem?_map]at hy
   obtain⟨z,hz,rfl⟩:=Option.map_eq_some_iff.1 hy
   exact⟨yI N n (by omega) z w b _ (k1 i z hz).1,nE N n (by omega) z B w (k1 i z hz).2⟩
theorem kT:(N n:Nat)->n<=N->(x:Tm (n+1))->nodes (N+1) (lift (N+1) (n+1) x)=nodes (n+1) x
 | N,0,_,x=>by
  have:∀l:List (Tm 0),(l.map fun y=>lift N 0 y).flatMap (fun y=>nodes N y)=l.flatMap fun y=>nodes 0 y:=by
   intro l
   induction l with
   | nil=>rfl
   | cons a l ih=>
    simp only[List.map_cons,List.flatMap_cons,ih]
    congr 1
    cases N with
    | zero=>rfl
    | succ N=>simp[lift,nodes]
  simp only[nodes,lift,List.length_map,this]
 | 0,n+1,h,_=>by omega
 | N+1,n+1,h,x=>by
  have:∀l:List (Tm (n+1)),(l.map fun y=>lift (N+1) (n+1) y).flatMap (fun y=>nodes (N+1) y)=l.flatMap fun y=>nodes (n+1) y:=by
   intro l
   induction l with
   | nil=>rfl
   | cons a l ih=>
    simp only[List.map_cons,List.flatMap_cons,ih]
    rw[kT N n (by omega) a]
  have e:nodes (N+2) (lift (N+2) (n+2) x)=(x.1,(x.2.1.1,(x.2.2.map fun y=>lift (N+1) (n+1) y).length,x.2.1.2))::(x.2.2.map fun y=>lift (N+1) (n+1) y).flatMap fun y=>nodes (N+1) y:=rfl
  rw[e,this]
  simp[nodes]
def top (b:List An):Nat:=b.foldr (fun a m=>max a.1 m) 0
theorem zX (b:List An):∀a∈b,a.1<=top b:=by
 induction b with
 | nil=>intro a h;cases h
 | cons c b ih=>
  intro a h
  simp only[top,List.foldr_cons]
  rcases List.mem_cons.1 h with rfl|h
  ·omega
  ·have:=ih a h
   unfold top at this
   omega
def Ba (b:List An):List (Tm (top b)):=b.map fun a=>lift (top b) a.1 a.2
theorem Lb (b:List An) (i:Nat) (y:Tm (top b)) (h:(Ba b)[i]? =some y):∃a,b[i]? =some a/\a.1<=top b/\y=lift (top b) a.1 a.2:=by
 simp only[Ba,List.getElem?_map]at h
 obtain⟨a,ha,rfl⟩:=Option.map_eq_some_iff.1 h
 exact⟨a,ha,zX b a (List.mem_of_getElem? ha),rfl⟩
theorem Kh {base g c B:Nat} {b:List An} {w:World} (h:Has base g c b w) (hb:∀y∈b,InA B w y) (hB:B<=w.heap.size):Lies w.heap.size w (top b) (Ba b) (some ⟨g,0,none⟩):=by
 refine Or.inr ⟨g,0,rfl,h.lt.2,fun i y hy=> ?_⟩
 obtain⟨a,ha,hle,rfl⟩:=Lb b i y hy
 have hin:=hb a (List.mem_of_getElem? ha)
 refine⟨?_,(nE _ _ hle _ _ _ hin).mono hB⟩
 obtain⟨n,x⟩:=a
 have hc:=h.cells i _ ha
 cases n with
 | zero=>exact hin.elim
 | succ n=>
  rw[Nat.zero_add]
  exact yI _ _ hle x w g (i*4) hc
theorem GQ {b:List An} (h:∀y∈b,ai y/\y.1≠0):∀y∈Ba b,ai ⟨top b,y⟩:=by
 intro y hy
 obtain⟨i,hi⟩:=List.getElem?_of_mem hy
 obtain⟨a,ha,hle,rfl⟩:=Lb b i y hi
 have hr:=h a (List.mem_of_getElem? ha)
 obtain⟨n,x⟩:=a
 cases n with
 | zero=>exact(hr.2 rfl).elim
 | succ n=>
  intro z hz
  clear hi hy ha h
  generalize top b=T at*
  obtain⟨M,rfl⟩:∃M,T=M+1:=⟨T-1,by simp only at hle;omega⟩
  have e:=kT M n (by simp only at hle;omega) x
  simp only at hz
  rw[e]at hz
  exact hr.1 z hz
theorem gK {α β:Type} (f:α->β->Bool):(p:List α)->(q:List β)->(x:α)->(y:β)->ah f p q=true->f x y=true->ah f (p++ [x]) (q++ [y])=true
 | [],[],x,y,_,h=>by simp[ah,h]
 | [],_::_,_,_,h,_=>by simp[ah]at h
 | _::_,[],_,_,h,_=>by simp[ah]at h
 | a::p,b::q,x,y,h,k=>by
  simp only[ah,Bool.and_eq_true,List.cons_append]at h ⊢
  exact⟨h.1,gK f p q x y h.2 k⟩
theorem bN {α β:Type} (f:α->β->Bool):(p:List α)->(q:List β)->ah f p q=true->p.length=q.length
 | [],[],_=>rfl
 | [],_::_,h=>by simp[ah]at h
 | _::_,[],h=>by simp[ah]at h
 | a::p,b::q,h=>by
  simp only[ah,Bool.and_eq_true]at h
  simp[bN f p q h.2]
def zA:An:=⟨1,((0,0,.empty),(none,0),[])⟩
theorem Ib (n:Nat):(madeCells #[.int .i64 0,.int .i64 0,.string .empty,.slice none 0 0] (n*4)).toList=eH (List.replicate n zA):=by
 apply List.ext_getElem?
 intro i
 by_cases h:i<n*4
 ·obtain⟨k,j,hj,rfl⟩:∃k j,j<4/\i=k*4+j:=⟨i / 4,i % 4,Nat.mod_lt _ (by decide),by omega⟩
  have hk:k<n:=by omega
  have e:(eH (List.replicate n zA))[k*4+j]? =(yn (tu zA))[j]? :=gT _ k (tu zA) (by simp[hk]) j hj
  rw[e]
  have e2:(madeCells #[.int .i64 0,.int .i64 0,.string .empty,.slice none 0 0] (n*4))[k*4+j]? =some ((#[.int .i64 0,.int .i64 0,.string .empty,.slice none 0 0]:Array Value)[(k*4+j) % 4]!):=by
   simp[madeCells,h]
  rw[Array.getElem?_toList,e2,show (k*4+j) % 4=j by omega]
  have:j=0∨j=1∨j=2∨j=3:=by omega
  rcases this with rfl|rfl|rfl|rfl<;>rfl
 ·rw[List.getElem?_eq_none (by simp[size_madeCells];omega),List.getElem?_eq_none (by rw[jB];simp;omega)]
def CpP (n:Nat) (p:List (Tm n)) (len g k:Nat) (l:List (Tm n)) (wr:World):Prop:=
 l.length=k/\Has g g len (l.map (fun x=>(⟨n,x⟩:An))++List.replicate (len-k) zA) wr/\(∀y∈l,In wr.heap.size wr n y/\Off (fun q=>g<q) n y)/\ah (fun a b=>same n a n b) l (p.take k)=true
theorem CpP.step {n:Nat} {p:List (Tm n)} {len g k:Nat} {l:List (Tm n)} {wr w1:World} (h:CpP n p len g k l wr) (hk:k<len) (x:Tm n) (hx:p[k]? =some x) (hb:Below wr.heap.size wr w1) (y:Tm n) (hy:In w1.heap.size w1 n y) (ho:Off (fun q=>g<q) n y) (hs:same n y n x=true):
    CpP n p len g (k+1) (l++ [y]) (iJ w1 g (k*4) (gZ n y)):=by
 obtain⟨h1,h2,h3,h4⟩:=h
 have hg:=(h2.below hb).put k ⟨n,y⟩ (by simp;omega)
 have e:(l.map (fun x=>(⟨n,x⟩:An))++List.replicate (len-k) zA).set k ⟨n,y⟩=(l++ [y]).map (fun x=>(⟨n,x⟩:An))++List.replicate (len-(k+1)) zA:=by
  rw[List.set_append_right _ _ (by simp;omega)]
  have:len-k=(len-(k+1))+1:=by omega
  rw[this,List.replicate_succ]
  simp[h1]
 rw[e]at hg
 refine⟨by simp[h1],hg, ?_, ?_⟩
 ·intro z hz
  have hsz:(iJ w1 g (k*4) (gZ n y)).heap.size=w1.heap.size:=aJ _ _ _ _
  rw[hsz]
  rcases List.mem_append.1 hz with hz|hz
  ·exact⟨In.off (fun q hq=>aA (by omega) _ _ _ _) (h3 z hz).2 (((h3 z hz).1.below hb).mono hb.size),(h3 z hz).2⟩
  ·simp only[List.mem_singleton]at hz
   subst hz
   exact⟨In.off (fun q hq=>aA (by omega) _ _ _ _) ho hy,ho⟩
 ·rw[List.take_add_one,hx]
  exact gK _ _ _ _ _ h4 hs
def CpRow (n:Nat) (p:List (Tm n)) (w w':World) (a:Option Addr) (c:Nat) (l:List (Tm n)):Prop:=
 Below w.heap.size w w'/\l.length=p.length/\l.length<=c/\c<=maxLen/\ah (fun a b=>same n a n b) l p=true/\
 (l=[]∨∃b o,a=some ⟨b,o,none⟩/\(w.heap.size<=b/\o=0/\(∀j,w'.frozen? ⟨b,j,none⟩=false)/\∀y∈l,Off (fun q=>q≠b) n y)/\b<w'.heap.size/\∀(i:Nat) (y:Tm n),l[i]? =some y->Held w' b (o+i*4) n y/\In w'.heap.size w' n y/\Off (fun q=>w.heap.size<=q) n y)
theorem CpP.done {n:Nat} {p:List (Tm n)} {len k:Nat} {l:List (Tm n)} {w wr:World} (h:CpP n p len w.heap.size k l wr) (hl:p.length=len) (hk:k=len) (hb:Below w.heap.size w wr) (hm:len<=maxLen):
    CpRow n p w wr (some ⟨w.heap.size,0,none⟩) len l:=by
 obtain⟨h1,h2,h3,h4⟩:=h
 subst hk
 rw[List.take_of_length_le (by omega)]at h4
 rw[Nat.sub_self,List.replicate_zero,List.append_nil]at h2
 refine⟨hb,by omega,by omega,hm,h4,Or.inr ⟨w.heap.size,0,rfl,⟨Nat.le_refl _,rfl,fun j=>h2.free j,fun y hy=>(h3 y hy).2.mono fun q hq=>by omega⟩,h2.lt.2,fun i y hy=>⟨?_,(h3 y (List.mem_of_getElem? hy)).1,(h3 y (List.mem_of_getElem? hy)).2.mono fun q hq=>by omega⟩⟩⟩
 have hc:=h2.cells i ⟨n,y⟩ (by simp[hy])
 have hin:=(h3 y (List.mem_of_getElem? hy)).1
 cases n with
 | zero=>exact hin.elim
 | succ n=>
  rw[Nat.zero_add]
  exact hc
def QM (n:Nat):Prop:=∀(x:Tm n) (B:Nat) (w:World),In B w n x->B<=w.heap.size->ai ⟨n,x⟩->
 Calls Tryz.prog 45 #[val n x] w fun e w'=>∃y:Tm n,e=.returned (val n y)/\Hid (Below w.heap.size w w'/\In w'.heap.size w' n y/\Off (fun q=>w.heap.size<=q) n y/\same n y n x=true)
theorem vS {s t:ByteArray} (h:(s.toList==t.toList)=true):s=t:=by
 have h1:s.toList=t.toList:=by simpa using h
 rw[ByteArray.toList_eq,ByteArray.toList_eq]at h1
 cases s;cases t
 simp only at h1
 rw[Array.toList_inj.1 h1]
theorem aM {n m:Nat} {x:Tm (n+1)} {y:Tm (m+1)} (h:same (n+1) x (m+1) y=true):x.1=y.1/\ah (fun a b=>same n a m b) x.2.2 y.2.2=true:=by
 simp only[same,Bool.and_eq_true,beq_iff_eq]at h
 obtain⟨⟨⟨h1,h2⟩,h3⟩,h4⟩:=h
 refine⟨?_,h4⟩
 have h5:=vS (s:=x.1.2.2) (t:=y.1.2.2) (by simpa using h3)
 exact Prod.ext h1 (Prod.ext h2 h5)
theorem aZ {n m:Nat} {x:Tm (n+1)} {y:Tm (m+1)} (h:x.1=y.1) (k:ah (fun a b=>same n a m b) x.2.2 y.2.2=true):same (n+1) x (m+1) y=true:=by
 simp only[same,h,k]
 simp
theorem oM {α β:Type} (f:α->β->Bool) (g:β->α->Bool):(p:List α)->(q:List β)->(∀a∈p,∀b,f a b=true->g b a=true)->ah f p q=true->ah g q p=true
 | [],[],_,_=>rfl
 | [],_::_,_,h=>by simp[ah]at h
 | _::_,[],_,h=>by simp[ah]at h
 | a::p,b::q,hf,h=>by
  simp only[ah,Bool.and_eq_true]at h ⊢
  exact⟨hf a (by simp) b h.1,oM f g p q (fun a' ha=>hf a' (List.mem_cons_of_mem _ ha)) h.2⟩
theorem cK:(n:Nat)->(x:Tm n)->(m:Nat)->(y:Tm m)->same n x m y=true->same m y n x=true
 | 0,_,_,_,h=>by simp[same]at h
 | _+1,_,0,_,h=>by simp[same]at h
 | n+1,x,m+1,y,h=>by
  obtain⟨h1,h2⟩:=aM h
  exact aZ h1.symm (oM _ _ _ _ (fun a _ b hab=>cK n a m b hab) h2)
theorem mO {α β γ:Type} (f:α->β->Bool) (g:β->γ->Bool) (k:α->γ->Bool):(p:List α)->(q:List β)->(r:List γ)->(∀a∈p,∀b c,f a b=true->g b c=true->k a c=true)->ah f p q=true->ah g q r=true->ah k p r=true
 | [],[],[],_,_,_=>rfl
 | [],[],_::_,_,_,h=>by simp[ah]at h
 | [],_::_,_,_,h,_=>by simp[ah]at h
 | _::_,[],_,_,h,_=>by simp[ah]at h
 | _::_,_::_,[],_,_,h=>by simp[ah]at h
 | a::p,b::q,c::r,hf,h1,h2=>by
  simp only[ah,Bool.and_eq_true]at h1 h2 ⊢
  exact⟨hf a (by simp) b c h1.1 h2.1,mO f g k p q r (fun a' ha=>hf a' (List.mem_cons_of_mem _ ha)) h1.2 h2.2⟩
theorem aW:(n:Nat)->(x:Tm n)->(m:Nat)->(y:Tm m)->(l:Nat)->(z:Tm l)->same n x m y=true->same m y l z=true->same n x l z=true
 | 0,_,_,_,_,_,h,_=>by simp[same]at h
 | _+1,_,0,_,_,_,h,_=>by simp[same]at h
 | _+1,_,_+1,_,0,_,_,h=>by simp[same]at h
 | n+1,x,m+1,y,l+1,z,h,k=>by
  obtain⟨h1,h2⟩:=aM h
  obtain⟨k1,k2⟩:=aM k
  exact aZ (h1.trans k1) (mO _ _ _ _ _ _ (fun a _ b c hab hbc=>aW n a m b l c hab hbc) h2 k2)
theorem jy {α:Type} (f:α->α->Bool):(p:List α)->(∀a∈p,f a a=true)->ah f p p=true
 | [],_=>rfl
 | a::p,h=>by
  simp only[ah,Bool.and_eq_true]
  exact⟨h a (by simp),jy f p fun a' ha=>h a' (List.mem_cons_of_mem _ ha)⟩
theorem fJ:(n:Nat)->(x:Tm n)->ai ⟨n,x⟩->same n x n x=true
 | 0,_,h=>(bQ h).elim
 | n+1,x,h=>aZ rfl (jy _ _ fun y hy=>fJ n y (aH n x y h hy))
theorem ax {n:Nat} {x:Tm n}:ai ⟨n,x⟩ ↔ aY n x=true:=by
 rw[jY,List.all_eq_true]
 exact Iff.rfl
theorem Ni {x:Int×Int×ByteArray} {a b:Option Addr} {l c d:Nat}:good (x,(a,l,c))=good (x,(b,l,d)):=rfl
theorem qO {α β:Type} (f:α->β->Bool) (g:α->Bool) (k:β->Bool):(p:List α)->(q:List β)->(∀a∈p,∀b,f a b=true->g a=k b)->ah f p q=true->p.all g=q.all k
 | [],[],_,_=>rfl
 | [],_::_,_,h=>by simp[ah]at h
 | _::_,[],_,h=>by simp[ah]at h
 | a::p,b::q,hf,h=>by
  simp only[ah,Bool.and_eq_true]at h
  simp only[List.all_cons,hf a (by simp) b h.1,qO f g k p q (fun a' ha=>hf a' (List.mem_cons_of_mem _ ha)) h.2]
theorem jk {α β γ:Type} (f:α->β->Bool) (g:α->γ) (k:β->γ):(p:List α)->(q:List β)->(∀a∈p,∀b,f a b=true->g a=k b)->ah f p q=true->p.map g=q.map k
 | [],[],_,_=>rfl
 | [],_::_,_,h=>by simp[ah]at h
 | _::_,[],_,h=>by simp[ah]at h
 | a::p,b::q,hf,h=>by
  simp only[ah,Bool.and_eq_true]at h
  simp only[List.map_cons,hf a (by simp) b h.1,jk f g k p q (fun a' ha=>hf a' (List.mem_cons_of_mem _ ha)) h.2]
theorem vP {α:Type} (g:α->Int):(p:List α)->(i:Int)->p.foldl (fun m y=>max m (g y)) i=(p.map g).foldl max i
 | [],_=>rfl
 | a::p,i=>by simp only[List.foldl_cons,List.map_cons];exact vP g p _
theorem bD:(n:Nat)->(x:Tm n)->(m:Nat)->(y:Tm m)->same n x m y=true->av n x=av m y
 | 0,_,_,_,h=>by simp[same]at h
 | _+1,_,0,_,h=>by simp[same]at h
 | n+1,x,m+1,y,h=>by
  obtain⟨h1,h2⟩:=aM h
  simp only[av,h1]
  rw[qO _ _ _ _ _ (fun a _ b hab=>bD n a m b hab) h2]
theorem ib:(n:Nat)->(x:Tm n)->(m:Nat)->(y:Tm m)->same n x m y=true->aY n x=aY m y
 | 0,_,_,_,h=>by simp[same]at h
 | _+1,_,0,_,h=>by simp[same]at h
 | n+1,x,m+1,y,h=>by
  obtain⟨h1,h2⟩:=aM h
  have e:good (aL n x)=good (aL m y):=by
   have hl:=bN _ _ _ h2
   unfold aL
   rw[h1,hl]
   exact Ni
  simp only[aY,e,h1]
  rw[qO _ _ _ _ _ (fun a _ b hab=>ib n a m b hab) h2]
theorem jX:(n:Nat)->(x:Tm n)->(m:Nat)->(y:Tm m)->same n x m y=true->sz n x=sz m y
 | 0,_,_,_,h=>by simp[same]at h
 | _+1,_,0,_,h=>by simp[same]at h
 | n+1,x,m+1,y,h=>by
  obtain⟨h1,h2⟩:=aM h
  simp only[sz,h1]
  rw[jk _ (fun y=>1+sz n y) (fun y=>1+sz m y) _ _ (fun a _ b hab=>by rw[jX n a m b hab]) h2]
theorem Cw:(n:Nat)->(x:Tm n)->(m:Nat)->(y:Tm m)->same n x m y=true->dU n x=dU m y
 | 0,_,_,_,h=>by simp[same]at h
 | _+1,_,0,_,h=>by simp[same]at h
 | n+1,x,m+1,y,h=>by
  obtain⟨h1,h2⟩:=aM h
  simp only[dU,h1]
  rw[vP (fun y=>dU n y),vP (fun y=>dU m y),jk _ (fun y=>dU n y) (fun y=>dU m y) _ _ (fun a _ b hab=>Cw n a m b hab) h2]
theorem aX {n m:Nat} {x:Tm n} {y:Tm m} (h:same n x m y=true):aQ n x=aQ m y:=by
 rw[<-ik,<-ik]
 unfold zS
 rw[ib n x m y h,jX n x m y h,Cw n x m y h]
theorem jq {n m:Nat} {x:Tm n} {y:Tm m} (h:same n x m y=true):aU ⟨n,x⟩=aU ⟨m,y⟩:=by
 cases n with
 | zero=>simp[same]at h
 | succ n=>
  cases m with
  | zero=>simp[same]at h
  | succ m=>
   have:=(aM h).1
   simp only[aU,this]
theorem jG {α β:Type} (f:α->β->Bool):(p:List α)->(q:List β)->ah f p q=true->∀(i:Nat) (a:α) (b:β),p[i]? =some a->q[i]? =some b->f a b=true
 | [],_,_,i,a,b,ha,_=>by simp at ha
 | _::_,[],h,_,_,_,_,_=>by simp[ah]at h
 | a::p,b::q,h,0,a',b',ha,hb=>by
  simp only[ah,Bool.and_eq_true]at h
  simp at ha hb
  subst ha hb
  exact h.1
 | a::p,b::q,h,i+1,a',b',ha,hb=>by
  simp only[ah,Bool.and_eq_true]at h
  exact jG f p q h.2 i a' b' (by simpa using ha) (by simpa using hb)
theorem gP {α β:Type} (f:β->α->Bool) (g:α->β):(p:List α)->(∀a∈p,f (g a) a=true)->ah f (p.map g) p=true
 | [],_=>rfl
 | a::p,h=>by
  simp only[List.map_cons,ah,Bool.and_eq_true]
  exact⟨h a (by simp),gP f g p fun a' ha=>h a' (List.mem_cons_of_mem _ ha)⟩
theorem fB:(N n:Nat)->n<=N->(x:Tm n)->ai ⟨n,x⟩->same N (lift N n x) n x=true
 | _,0,_,_,h=>(bQ h).elim
 | 0,n+1,h,_,_=>by omega
 | N+1,n+1,h,x,hr=>aZ rfl (gP _ _ _ fun y hy=>fB N n (by omega) y (aH n x y hr hy))
end Go.Proofs.YtmbjgiaebneodaaGreat
