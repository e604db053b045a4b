/- What is proved here: plain facts and contracts that the claimed theorem stands on. No condition but those that each names. -/
import Derived.Test.YtckamaoibonjcaaGreatH44
import Derived.Shelf.SortM.Plain
import Derived.Shelf.SortM.SortNone
import Derived.Test.YtckamaoibonjcaaGreatH43
namespace Go.Proofs.YtckamaoibonjcaaGreat
open Go.RowKit Go.Maps Go.Sort Go.Shelf
open Go.RowKit
set_option maxRecDepth 100000
set_option maxHeartbeats 1000000
theorem K4{k:Type}{f:k->Value}{w:World}{j:Nat}{l:List (Int×k)}(n:vq f w j l)(r:∀p∈l,(Lit.int .i64 p.1).wf=true)(z:l.length<=maxLen):∃D:DataW Value,w.ownsMap Tryz.prog 3 qN j l.length D/\(intKeys D).Perm (l.map (·.1))/\Maps.size D=l.length:=by
 obtain⟨es,m,o,e,q⟩:=n;have i:∀a∈es.toList,∃b,a.key=.int .i64 b/\WideElems.rd Tryz.prog 3 qN a=some (.int .i64 b,.held a.val):=λa d=>by
  have u:(a.key,a.val)∈l.map λp=>(Value.int .i64 p.1,f p.2):=e▸bU.2 ⟨a,d,rfl⟩;obtain⟨p,s,c⟩:=bU.1 u;have g:a.key=.int .i64 p.1:=(congrArg Prod.fst c).symm;refine⟨p.1,g,?_⟩;unfold WideElems.rd;rw[g,keyOf_int_mk Tryz.underlying3 (r p s)];rfl
 have t:es.size=l.length:=by
  have:=congrArg List.length e;simpa using this
 refine⟨_,⟨es,m,o,⟨by omega,q,λa d=>?_⟩,by omega,rfl⟩,?_,?_⟩
 ·obtain⟨b,_,c⟩:=i a d;exact⟨_,c⟩
 ·have c:es.toList.map (λa=>Go.intOf (WideElems.rg Tryz.prog 3 qN a).1)=l.map (·.1):=by
    have h:=congrArg (List.map λy:Value×Value=>match y.1 with| .int _ b=>b|_=>0) e;rw[fI,fI]at h;refine(jf λa d=>?_).trans (h.trans (jf λp _=>rfl));obtain⟨b,v,x⟩:=i a d;rw[WideElems.rg_of x];simp only[Function.comp,v,Go.intOf]
  rw[<-c];have:=(WideShapes.sorted_perm (es.toList.map (WideElems.rg Tryz.prog 3 qN))).map λp=>Go.intOf p.1;rw[fI]at this;exact this
 ·rw[<-t];simpa [Maps.size]using (WideShapes.sorted_perm (es.toList.map (WideElems.rg Tryz.prog 3 (qN)))).length_eq
theorem M8(m:Nat):AnyZI.SortsIn Tryz.prog Tryz.sortedA_ren Fence.wide m:=
 ⟨λb off cap g a c d e=>callsIn_wide.2 (AnyM.slices_Sort_int Tryz.sortA b off cap g a c d e),λf cap a=>callsIn_wide.2 (AnyM.slices_Sort_int_none Tryz.sortA f cap a)⟩
theorem tI(g:Nat)(f:Option Nat)(w:World)(S:List Int->Prop)(N:Nat)(m:w.cell? ⟨g,3,none⟩=some (.map f))(o:N<=1000)(l:SeqGives Fence.wide 2 Tryz.prog 57 #[.pointer (some ⟨w.heap.size,0,none⟩)] encZ S N (w.alloc (.cells #[.map f] 62))):Calls Tryz.prog 12 #[.pointer (some ⟨g,0,none⟩)] w λe w'=>∃v c,e=.returned v/\S c/\ig w.heap.size v (c.mergeSort leI) w'/\Below w.heap.size w w':=by
 refine(callsIn_wide (n:=6)).1 ?_;have h:∀b a,CallsIn Fence.wide 5 Tryz.prog 32 #[.map b] a λe w'=>e=.returned (.func (.func 57) #[] #[.pointer (some ⟨a.heap.size,0,none⟩)])/\w'=a.alloc (.cells #[.map b] 62):=λb a=>AnyZI.keys_in Tryz.keysA Fence.wide 5 trivial rfl b a;have d:=AnyZI.sorted_in Tryz.sortedA Fence.wide 5 trivial trivial trivial trivial rfl (by omega) (M8 _) (enters_of Tryz.func56 (by kernel_rfl) rfl) 57 #[.pointer (some ⟨w.heap.size,0,none⟩)] trivial (enters_of Tryz.func57 (by kernel_rfl) rfl) _ _ (by unfold maxLen;omega) (by omega) _ l;change CallsIn _ _ Tryz.prog 31 _ _ _ at d;have p:Fence.wide.fn 32:=trivial;have q:Fence.wide.fn 31:=trivial;refine callsIn_of_wp Tryz.func12 rfl trivial ?_ rfl;simp only[Tryz.ntmps12,e9,aZ,jZ,Nat.reduceAdd,Nat.reduceSub,Array.replicate_succ,Array.replicate_zero,List.push_toArray,List.append_toArray,mi,fG]
 gi_wp2_with (first
  | (gi_at_call 32;refine(h _ _).mono ?_;rintro e w' ⟨rfl,rfl⟩)
  | (gi_at_call 31;refine d.mono ?_;rintro e w' ⟨v,c,rfl,i,k,r,j⟩))
 go_ret
 refine⟨v,c,rfl,i,?_,((am _ w).alloc (aj _) _).trans (j.mono (by simp))⟩;have:=ownsRow_base_a k (by simp:w.heap.size<=_);unfold ig;rw[List.length_mergeSort];exact this
section
variable {p:kJ} {s:Sy} {d:fS} {w:World}
theorem aX.aliveL(i:aX p s d w):Calls Tryz.prog 12 #[.pointer (some ⟨p.b,0,none⟩)] w λe w'=>∃v q,e=.returned v/\q.Perm (s.ps.map (·.1))/\q=(s.ps.map (·.1)).mergeSort leI/\ig w.heap.size v q w'/\Below w.heap.size w w':=by
 obtain⟨c,C,u,D,E,F⟩:=i.keys;have G:d.l.length=s.ps.length:=by
  have:=congrArg List.length c;simpa using this
 have g:=i.cells.2.2.2;have o:Below w.heap.size w (w.alloc (.cells #[.map d.po] 62)):=(am _ w).alloc (aj _) _;rcases i.pm with⟨n,h⟩|⟨k,n,_,_,h⟩
 ·rw[n]at g o;refine(tI p.b none w (λa=>a=[]) 0 g (by omega) (AnyZI.keys_gives_nil (ρ:=Tryz.keysA_ren) {Tryz.keysA with} Fence.wide _ trivial rfl w.heap.size _ (by simp) (by simp))).mono ?_;rintro e w' ⟨v,a,rfl,rfl,f,j⟩;exact⟨v,[],rfl,by rw[<-c,h];exact List.Perm.refl _,by rw[<-c,h];simp,by simpa using f,j⟩
 ·rw[n]at g o;have j:=i.low k (by omega)
  obtain⟨m,z,A,H⟩:=K4 (h.kept (o.block k (by omega))) (λt y=>by
   have:t.1∈s.ps.map (·.1):=c▸bU.2 ⟨t,y,rfl⟩;obtain⟨B,f,e⟩:=bU.1 this;have:=u B f;simp[Lit.wf,IntKind.min,IntKind.max,IntKind.signed,IntKind.bits]
   omega) (by unfold maxLen;omega)
  refine(tI p.b (some k) w (λa=>a.Perm (intKeys m)) (Maps.size m) g (by omega) (AnyZI.keys_gives (ρ:=Tryz.keysA_ren) {Tryz.keysA with} Fence.wide _ trivial rfl (by omega) w.heap.size k _ m _ (by simp) (by simp) z)).mono ?_;rintro e w' ⟨v,a,rfl,x,f,j⟩;have r:=x.trans (A.trans (List.Perm.of_eq c));exact⟨v,_,rfl,(List.mergeSort_perm a leI).trans r,mergeSort_of_perm_i r,f,j⟩
end
theorem vg{s:ByteArray}{t:Tc}(k:nR s 13 t)(n:bq 13 t=0)(W:World):ak 21 #[ab 1,ae s] W λe w'=>∃y0 y1 y2 ya yl yc,e=.returned (.agg #[ab 3,ab 1,ab 0,ab y0,ab y1,ae y2,.slice ya yl yc])/\Hid (mw t W.heap.size y0 y1 y2 ya yl yc w'/\ai W w'):=by
 refine GI 1 s W (λy0 y1 y2 ya yl yc d=>mw t W.heap.size y0 y1 y2 ya yl yc d) λj w x=>(AR k n j).mono ?_;rintro e w' ⟨b,a,rfl,i⟩;obtain⟨l,f,m,g⟩:=i.out;have y:=g.size;refine⟨_,_,_,_,_,_,rfl,g,λd o=>?_⟩;have p:mw t (W.heap.size+1) a.1.1 a.1.2.1 a.1.2.2 a.2.1.1 a.2.2.length a.2.1.2 w':=⟨b,a,⟨rfl,rfl,rfl⟩,l,f,(In.offB m f).mono λh c=>⟨by omega,c.2⟩⟩;obtain⟨b,a,q,r,u,v⟩:=p.kee o λh z A B=>by omega
 exact⟨b,a,q,r,u,v.mono λh c=>⟨by omega,c.2⟩⟩
theorem BN.grow{w0:World}{V V':Nat->Prop}{j:World}{s:Sy}{i g:Nat}{W b:World}(l:BN w0 V j s i g W)(d:ai W b)(r:∀q,V' q->V q\/(W.heap.size<=q/\q<b.heap.size)):BN w0 V' b s i g b:=by
 obtain⟨t,e,k,f,m,n,c,o,p⟩:=l;have u:=p.size;have v:=d.size;refine⟨t,e,k,f.later d,m,n,⟨c.1.trans (d.mono c.1.size),c.2⟩,λq a=>?_,bk.refl _ _⟩;rcases r q a with a|a
 ·have:=o q a;exact⟨by omega,this.2⟩
 ·refine⟨a.2,?_⟩;by_cases h:e.ow q=0
  ·exact h
  ·have:=(f.low q h).2;omega
theorem Dw(w0:World){a:Nat}{W:World}(l:tD w0 Ki 0 a W):ak 19 #[.pointer (some ⟨a,0,none⟩),ae pX,.agg #[ab 1,ab 2,ae ⟨#[]⟩,.slice none 0 0]] W λe w'=>e=.returned (.tuple #[ab 1,ab 0])/\Hid (tD w0 E5 1 a w'):=by
 obtain⟨p,u,rfl,b,⟨c,d⟩,v,m,f⟩:=l;have o:In W.heap.size W 1 (KI 2 0):=As 1 2 0 (by unfold dk;omega) (by unfold dk;omega) _ _;refine(b.start pX (by decide) (KI 2 0) o (by decide) (by omega) (by omega)).mono ?_;rintro e w' ⟨s,q,rfl,j⟩;obtain⟨⟨g,n⟩,k,h,i⟩:=j.out;rw[c,Dk d]at g h;have r:q=0:=g.trans E6.1;subst r;have t:s=1:=n rfl;subst t;exact⟨rfl,p,k,rfl,h,⟨c,d⟩,by obtain⟨_,_,w,x,y,z⟩:=i;omega,m.trans (qU b i f),f⟩
theorem Lu{g:Nat}{W:World}(b:W.heap[g]?=some (.cells #[ab 1,ab 2] 3)):sM (.slice (some ⟨g,0,none⟩) 2 2) [1,2] W:=by
 refine⟨_,_,rfl,ah ⟨g,0,rfl,(aC.1 b).1,λi k a=>?_⟩⟩
 match i,a with
 | 0,a=>
  obtain rfl:1=k:=by simpa using a
  exact af b 0
 | 1,a=>
  obtain rfl:2=k:=by simpa using a
  exact af b 1
 | i+2,a=>simp at a
def sS:Tm 1:=((0,0,⟨#[]⟩),(none,0),[])
theorem I3(B:Nat)(w:World):In B w 1 sS:=⟨⟨by simp[sS,dk],by simp[sS,dk],aF _,by simp[sS],by simp[sS]⟩,ag rfl⟩
theorem iS{a b:Int}(c:0<=a/\a<=9/\0<=b/\b<=9):I2 (a,b):=by
 unfold I2 dk;simp only;omega
def OD(m a:Nat):Nat->Nat
 | 0=>m
 | 1=>0
 | 2=>a
 | _+3=>0
def xF{m a:Nat}(x:Tm (m+1))(x':Tm (a+1)):(j:Nat)->Tm (OD m a j+1)
 | 0=>x
 | 1=>sS
 | 2=>x'
 | _+3=>sS
theorem mw.parts{t:Tc}{B:Nat}{y0 y1:Int}{y2:ByteArray}{ya:Option Addr}{yl yc:Nat}{W:World}(e:mw t B y0 y1 y2 ya yl yc W)(h:bq 13 t=0):∃(m:Nat)(l:List (Tm m)),l.length=yl/\aw (m+1) ((y0,y1,y2),(ya,yc),l) 13 t=true/\In W.heap.size W (m+1) ((y0,y1,y2),(ya,yc),l)/\bZ (λq=>B<=q/\q<W.heap.size) (m+1) ((y0,y1,y2),(ya,yc),l)/\(av (m+1) ((y0,y1,y2),(ya,yc),l)).length<=2097152:=by
 obtain⟨m,i,⟨a,b,d⟩,c,f,g⟩:=e;obtain⟨⟨k,n,o⟩,⟨p,r⟩,j⟩:=i;simp only[ei]at a b;obtain⟨rfl,rfl,rfl⟩:=a;obtain⟨rfl,rfl⟩:=b;exact⟨m,j,d,c,f,g,eR ((bL c).trans h)⟩
theorem Ds(w0:World){t r g m B2:Nat}{n d f h:World}{y0 y1:Int}{y2:ByteArray}{ya:Option Addr}{yl yc:Nat}{u v:Int}{w:ByteArray}{x:Option Addr}{B y:Nat}(D:tD w0 E5 1 t n)(F:ai n d/\n.heap.size=r/\G3 r d)(al:r<m/\r<B2)(M:mw uE m y0 y1 y2 ya yl yc d)(p:ai d f)(N:mw (aW sI 12) B2 u v w x B y f)(j:ai f h)(J:f.heap.size<=g/\h.heap[g]?=some (.cells #[ab 3,ab 1,ab 0,ab y0,ab y1,ae y2,.slice ya yl yc,ab 1,ab 1,ab 0,ab 0,ab 0,ae ⟨#[]⟩,.slice none 0 0,ab 3,ab 1,ab 0,ab u,ab v,ae w,.slice x B y,ab 1,ab 1,ab 0,ab 0,ab 0,ae ⟨#[]⟩,.slice none 0 0,ab 2,ab 1,ab 2,ab 0,ab 0,ae ⟨#[]⟩,.slice none 0 0,ab 1,ab 2,ab 0,ab 0,ab 0,ae ⟨#[]⟩,.slice none 0 0] 32)):ak 20 #[.pointer (some ⟨t,0,none⟩),.slice (some ⟨g,0,none⟩) 6 6] h λe w'=>e=.returned (.bool true)/\Hid (BN w0 (λq=>q=r) w' (xO E5 Kh) 7 t w'/\G3 r w'):=by
 obtain⟨o,ad,z⟩:=F;obtain⟨O,Z,rfl,Q,R,S,T⟩:=M.parts nN.2.1;obtain⟨P,aa,rfl,U,W,X,Y⟩:=N.parts nN.2.2.1;obtain⟨aj,a⟩:=J;have an:=(aC.1 a).1;have L:=(aC.1 z).1;have ao:=o.size;have ap:=p.size;have aq:=j.size;have i:=p.trans (j.mono p.size);have E:=o.trans (i.mono o.size);have K:=(i.block r L).trans z;have I:=D.from E (V:=λq=>q=r\/q=g\/(m<=q/\q<d.heap.size)\/(B2<=q/\q<f.heap.size)) λq c=>by rcases c with c|c|c|c<;>omega
 have k:∀{V:Nat->Prop},In h.heap.size h 1 sS/\bZ V 1 sS:=λ{V}=>⟨I3 _ _,ag rfl⟩;have l:(av 1 sS).length<=2097152:=by decide
 refine(Bt I Kh If (by decide) g 6 (ah (ag rfl)) (OD O P) (xF ((y0,y1,y2),(ya,yc),Z) ((u,v,w),(x,y),aa)) (λs e b=>?_) (λs e b=>?_)).mono ?_
 ·match s,b with
  | 0,b=>
   obtain rfl:(3,1,0,uE)=e:=au b;exact⟨⟨(R.below i).mono i.size,S.mono λq c=>ah (ah (ag c))⟩,T,ag Q,iS (by decide)⟩
  | 1,b=>
   obtain rfl:(1,1,0,sJ)=e:=au b;exact⟨k,l,ah (by decide),iS (by decide)⟩
  | 2,b=>
   obtain rfl:(3,1,0,aW sI 12)=e:=au b;exact⟨⟨(W.below j).mono j.size,X.mono λq c=>ah (ah (ah c))⟩,Y,ag U,iS (by decide)⟩
  | 3,b=>
   obtain rfl:(1,1,0,sJ)=e:=au b;exact⟨k,l,ah (by decide),iS (by decide)⟩
  | 4,b=>
   obtain rfl:(2,1,2,sJ)=e:=au b;exact⟨k,l,ah (by decide),iS (by decide)⟩
  | 5,b=>
   obtain rfl:(1,2,0,sJ)=e:=au b;exact⟨k,l,ah (by decide),iS (by decide)⟩
  | _+6,b=>cases b
 ·match s,b with
  | 0,b=>
   obtain rfl:(3,1,0,uE)=e:=au b;exact⟨af a 0,af a 1,af a 2,af a 3,af a 4,af a 5,af a 6⟩
  | 1,b=>
   obtain rfl:(1,1,0,sJ)=e:=au b;exact⟨af a 7,af a 8,af a 9,af a 10,af a 11,af a 12,af a 13⟩
  | 2,b=>
   obtain rfl:(3,1,0,aW sI 12)=e:=au b;exact⟨af a 14,af a 15,af a 16,af a 17,af a 18,af a 19,af a 20⟩
  | 3,b=>
   obtain rfl:(1,1,0,sJ)=e:=au b;exact⟨af a 21,af a 22,af a 23,af a 24,af a 25,af a 26,af a 27⟩
  | 4,b=>
   obtain rfl:(2,1,2,sJ)=e:=au b;exact⟨af a 28,af a 29,af a 30,af a 31,af a 32,af a 33,af a 34⟩
  | 5,b=>
   obtain rfl:(1,2,0,sJ)=e:=au b;exact⟨af a 35,af a 36,af a 37,af a 38,af a 39,af a 40,af a 41⟩
  | _+6,b=>cases b
 ·rintro e w' ⟨rfl,C⟩;have A:=C.out;refine⟨rfl,A.grow (am _ _) λq c=>ag (ag c),?_⟩;obtain⟨_,_,_,_,_,_,_,G,H⟩:=A;exact(H.block r (G r (ag rfl)).1 λc=>c (ag rfl)).trans K
def xq(w0:World)(a r:Nat)(W:World):Prop:=BN w0 (λq=>q=r) W (xO E5 Kh) 7 a W
theorem GL(w0:World){m r q g B:Nat}{i f j:World}{y0 y1:Int}{y2:ByteArray}{ya:Option Addr}{yl yc:Nat}(w:xq w0 m r i)(y:ai i f/\i.heap.size<=q/\f.cell? ⟨q,1,none⟩=some (ab 7))(N:i.heap.size<=B)(E:mw (aW BB 12) B y0 y1 y2 ya yl yc f)(u:G3 r f)(h:ai f j)(A:f.heap.size<=g/\j.heap[g]?=some (.cells #[ab 3,ab 1,ab 0,ab y0,ab y1,ae y2,.slice ya yl yc,ab 1,ab 1,ab 0,ab 0,ab 0,ae ⟨#[]⟩,.slice none 0 0] 32)):ak 20 #[.pointer (some ⟨m,0,none⟩),.slice (some ⟨g,0,none⟩) 2 2] j λe w'=>e=.returned (.bool true)/\Hid (tD w0 (xO (xO E5 Kh) NN) 9 m w'/\G3 r w'/\w'.cell? ⟨q,1,none⟩=some (ab 7)):=by
 obtain⟨k,L,n⟩:=y;obtain⟨F,K,rfl,G,H,I,J⟩:=E.parts nN.2.2.2;obtain⟨M,a⟩:=A;have O:=(aC.1 a).1;have C:q<f.heap.size:=fh f ⟨q,1,none⟩ n;have D:=(aC.1 u).1;have P:=k.size;have Q:=h.size;have x:=k.trans (h.mono k.size);have z:=w.grow x (V':=λb=>b=r\/b=q\/b=g\/(B<=b/\b<f.heap.size)) λb d=>by
  rcases d with d|d|d|d
  ·exact ag d
  all_goals exact ah (by omega)
 refine(Bt z NN KK (by decide) g 2 (ah (ah (ag rfl))) (OD F 0) (xF ((y0,y1,y2),(ya,yc),K) sS) (λl e c=>?_) (λl e c=>?_)).mono ?_
 ·match l,c with
  | 0,c=>
   obtain rfl:(3,1,0,aW BB 12)=e:=au c;exact⟨⟨(H.below h).mono h.size,I.mono λb d=>ah (ah (ah d))⟩,J,ag G,iS (by decide)⟩
  | 1,c=>
   obtain rfl:(1,1,0,sJ)=e:=au c;exact⟨⟨I3 _ _,ag rfl⟩,show (av 1 sS).length<=2097152 by decide,ah (by decide),iS (by decide)⟩
  | _+2,c=>cases c
 ·match l,c with
  | 0,c=>
   obtain rfl:(3,1,0,aW BB 12)=e:=au c;exact⟨af a 0,af a 1,af a 2,af a 3,af a 4,af a 5,af a 6⟩
  | 1,c=>
   obtain rfl:(1,1,0,sJ)=e:=au c;exact⟨af a 7,af a 8,af a 9,af a 10,af a 11,af a 12,af a 13⟩
  | _+2,c=>cases c
 ·rintro e w' ⟨rfl,v⟩;have t:=v.out;refine⟨rfl,t.at,?_⟩;obtain⟨_,_,_,_,_,_,_,o,s⟩:=t;refine⟨(s.block r (o r (ag rfl)).1 λd=>d (ag rfl)).trans ((h.block r D).trans u),?_⟩;rw[s.cell 1 (o q (ah (ag rfl))).1 λd=>d (ah (ag rfl))];exact(h.cell (p:=⟨q,1,none⟩) C).trans n
theorem GF(w0:World){c r:Nat}{W:World}(g:xq w0 c r W):ak 7 #[.pointer (some ⟨c,0,none⟩),ab 2] W λe w'=>∃nm m sa sl sc ma l b,e=.returned (.tuple #[ae nm,.agg #[ab 1,ab 7,ae m,.slice sa sl sc],.slice ma l b,ab 0])/\ai W w':=by
 obtain⟨t,p,rfl,h,_,q,_⟩:=g.at;obtain⟨⟨nm,o,n⟩,k,a⟩:=cd.1 Ig;simp only[ei]at a;obtain⟨rfl,a⟩:=a;refine(h.procS k (by decide) (by omega)).mono ?_;rintro e w' ⟨y0,y1,y2,ya,yl,yc,ma,b,rfl,d⟩;obtain⟨⟨⟨s,u,⟨f,_,_⟩,j,_⟩,_⟩,i⟩:=d.out;have:=(bA j).1;rw[f,a]at this;simp only[ei]at this;obtain⟨rfl,rfl,rfl⟩:=this;exact⟨_,_,ya,yl,yc,ma,_,b,rfl,i⟩
theorem Js(w:World):ak 5 #[] w λe w'=>e=.returned (.bool true)/\ai w w':=by
 refine Gm w (xt w) (λd a=>tD w Ki 0 d a) (λd a=>tD w E5 1 d a) (xq w) (λd a=>tD w (xO (xO E5 Kh) NN) 9 d a) (λf c a=>sM (.slice f 2 c) [1,2] a) (mw uE) (mw (aW sI 12)) (mw (aW BB 12)) (GB w) (λf l c a b=>JM w b) (λd a b=>Dw w b) (λa=>vg NY nN.2.1 a) (λa=>vg LM nN.2.2.1 a) (λa=>vg Ng nN.2.2.2 a) (λd r s H I y z A J y0 y1 y2 ya yl yc L M N O Q P b g m p k D C i=>Ds w b g m p k D C i) (λd r a b=>GF w b) (λd r a x b n=>?_) (λf c s a x b n i=>Cs (b.later n) (Lu i) (by decide)) (λd r K s G y z A y0 y1 y2 ya yl yc b g m p j k i=>GL w b g m p j k i) λd a b=>?_
 ·obtain⟨E,B,rfl,g,_⟩:=b.at;refine((g.later n).aliveL).mono ?_;rintro e w' ⟨F,q,rfl,_,h,j,o⟩;rw[MM]at h;have h:q=[1,2]:=by
   rw[h];exact List.mergeSort_of_pairwise (by simp[leI])
  subst h;obtain⟨f,c,rfl,v⟩:=j.row;exact⟨f,c,rfl,⟨f,c,rfl,v⟩,o⟩
 ·obtain⟨E,B,rfl,g,_,_,t,_⟩:=b;refine g.aliveL.mono ?_;rintro e w' ⟨F,q,rfl,u,_,j,o⟩;rw[KJ]at u;have h:q=[]:=List.Perm.eq_nil u;subst h;obtain⟨f,c,rfl,v⟩:=j.row;exact⟨f,c,rfl,t.trans (o.mono t.size)⟩
theorem zn(d:Nat)(p:Int)(nm:ByteArray)(b v l m:Int)(n:ByteArray)(xa:Option Addr)(q xc:Nat)(w:World)(g:w.cell? ⟨d,0,none⟩=some (ab p)):ak 16 #[.agg #[ae nm,ab b,ab v,ab l,ab m,ae n,.slice xa q xc],.pointer (some ⟨d,0,none⟩)] w λe w'=>e=.returned (.bool (decide (nm=mY/\b=p/\v=4)))/\ai w w':=by
 have k:=fh _ _ g;have c:∀o,ai w (w.alloc o):=λo=>(am _ _).alloc (aj _) _;have t:∀o,(w.alloc o).cell? ⟨d,0,none⟩=some (ab p):=λo=>((c o).cell (p:=⟨d,0,none⟩) k).trans g;clear g;go_enter Tryz.func16,Tryz.ntmps16;by_cases f:nm=mY
 ·subst f;by_cases h:b=p
  ·subst h;have j:(b==b)=true:=by simp
   by_cases i:v=4
   ·subst i;unfold mY;go_wp2_with fail
    go_ret
    exact⟨rfl,c _⟩
   ·have r:(v==4)=false:=by simpa using i
    rw[kj λa=>i a.2.2];unfold mY;go_wp2_with fail
    go_ret
    exact⟨rfl,c _⟩
  ·have j:(b==p)=false:=by simpa using h
   rw[kj λa=>h a.2.1];unfold mY;go_wp2_with fail
   go_ret
   exact⟨rfl,c _⟩
 ·have s:(nm.toList==[101,110,100])=false:=by
    rw[gi,b8];exact λa=>f (ByteArray.ext (lX.1 a))
  rw[kj λa=>f a.1];go_wp2_with fail
  go_ret
  exact⟨rfl,c _⟩
def MB(w0:World)(a n:Nat)(W:World):Prop:=∃(p:kJ)(s:Sy)(d:fS),p.b=a/\aX p s d W/\nr s/\s.ps.length=n/\(d.k<=4*402/\d.es.length<=4*201/\d.wn<=4*201/\d.bn<=4*201)/\ai w0 W/\w0.heap.size<=p.lo
def Kf(w0:World)(e:Nat)(a:Int)(c j:Nat)(W:World):Prop:=∃(p:kJ)(s:Sy)(d:fS),p.b=e/\aX p s d W/\nr s/\(d.k<=(4+j)*402/\d.es.length<=(4+j)*201/\d.wn<=(4+j)*201/\d.bn<=(4+j)*201)/\(ai w0 W/\w0.heap.size<=p.lo)/\W.heap[c]?=some (.cells #[ab a] 3)/\d.ow c=0
theorem aX.nobody{p:kJ}{s:Sy}{d:fS}{w:World}(b:aX p s d w){q:Nat}(c:w.heap.size<=q):d.ow q=0:=by
 by_cases a:d.ow q=0
 ·exact a
 ·have:=(b.low q a).2;omega
theorem Kf.more{w0:World}{f:Nat}{a:Int}{e j:Nat}{W c:World}(k:Kf w0 f a e j W)(b:ai W c){i:Nat}(t:j<=i):Kf w0 f a e i c:=by
 obtain⟨q,r,g,h,l,m,s,⟨d,n⟩,o,p⟩:=k;exact⟨q,r,g,h,l.later b,m,by omega,⟨d.trans (b.mono d.size),n⟩,en b o,p⟩
theorem JH{w0:World}{h n:Nat}{W:World}(w:MB w0 h n W):ak 12 #[.pointer (some ⟨h,0,none⟩)] W λe w'=>∃a c,e=.returned (.slice a n c)/\Hid (MB w0 h n w'/\∀r:Int,0<=r->r<n->∃g o k,(a=some ⟨g,o,none⟩/\w'.cell? ⟨g,o+r.toNat,none⟩=some (ab k))/\Hid (∀b,ai w' b->b.heap[w'.heap.size]?=some (.cells #[ab k] 3)->Kf w0 h k w'.heap.size 0 b)):=by
 obtain⟨v,l,m,rfl,d,p,rfl,x,q,s⟩:=w;refine d.aliveL.mono ?_;rintro e w' ⟨H,u,rfl,B,_,D,f⟩;obtain⟨a,c,rfl,C⟩:=D.row;have A:u.length=l.ps.length:=by rw[B.length_eq,eh]
 rw[A];have i:=q.trans (f.mono q.size);refine⟨a,c,rfl,⟨v,l,m,rfl,d.later f,p,rfl,x,i,s⟩,λr F G=>?_⟩;obtain⟨k,j⟩:∃k,u[r.toNat]?=some k:=⟨_,aE (by omega)⟩;rcases C with E|⟨g,o,e,_,z⟩
 ·rw[E]at j;simp at j
 ·exact⟨g,o,k,⟨e,z _ _ j⟩,λb t y=>⟨v,l,m,rfl,(d.later f).later t,p,by omega,⟨i.trans (t.mono i.size),s⟩,y,(d.later f).nobody (aj _)⟩⟩
theorem Ay{a:List Tc}{B i:Nat}{ma c:Option Addr}{f g:Nat}{W:World}(o:rZ a B ma W)(p:rZ a i c W)(u:a.length<=20):ak 15 #[.slice ma a.length f,.slice c a.length g] W λe w'=>e=.returned (.bool true)/\ai W w':=by
 obtain⟨ya,s,q,m,j,_⟩:=o;obtain⟨h,t,r,n,l,_⟩:=p;have k:=o7 13 13 (A7 13) ya h ma c f g W.heap.size W q r (by omega) (by omega) (aj _);rw[sB ya h (λd b=>(j d b).1) (λd b=>(l d b).1) (m.trans n.symm),s,t]at k;exact k
theorem FO{t:Tc}{B p:Nat}{y0 y1 h i:Int}{y2 j:ByteArray}{ya l:Option Addr}{yl yc o m:Nat}{W:World}(s:mw t B y0 y1 y2 ya yl yc W)(u:mw t p h i j l o m W):ak 14 #[.agg #[ab y0,ab y1,ae y2,.slice ya yl yc],.agg #[ab h,ab i,ae j,.slice l o m]] W λe w'=>e=.returned (.bool true)/\ai W w':=by
 obtain⟨x,f,⟨a,b,q⟩,y,v,_⟩:=s;obtain⟨n,g,⟨c,d,r⟩,z,w,_⟩:=u;have k:=A7 (x+1) f (n+1) g W.heap.size W v w (aj _);rw[bD _ _ _ _ _ _ y (dq _ _ _ _ z)]at k;obtain⟨⟨A,C,D⟩,⟨E,ac⟩,F⟩:=f;obtain⟨⟨G,H,I⟩,⟨J,K⟩,L⟩:=g;simp only[ei]at a b c d;obtain⟨rfl,rfl,rfl⟩:=a;obtain⟨rfl,rfl⟩:=b;obtain⟨rfl,rfl,rfl⟩:=c;obtain⟨rfl,rfl⟩:=d;subst q;subst r;exact k
theorem LF{w0:World}{n:Nat}{a:Int}{h j L:Nat}{p:kJ}{s:Sy}{d:fS}{W:World}(V:p.b=n)(I:aX p s d W)(B:Kf w0 n a h j W)(Q:d.es.length<=100000){C l:List (ByteArray×Int×Int×Tc)}(A:C.length=L)(z:s.evs=C++l)(S:(mY,a,4,sJ)∈l):ak 10 #[.pointer (some ⟨n,0,none⟩)] W λe w1=>∃g m q,e=.returned (.slice (some ⟨g,0,none⟩) m q)/\(L<m/\m<=q)/\Hid (ak 9 #[.slice (some ⟨g,L*7,none⟩) (m-L) (q-L),.func (Fn.func 16) #[] #[.pointer (some ⟨h,0,none⟩)]] w1 λe w2=>e=.returned (.bool true)/\Hid (Kf w0 n a h j w2)):=by
 subst V;refine(I.events Q).mono ?_;rintro e v ⟨ai,c,rfl,F⟩;obtain⟨u,Z,w,aa,D,ad⟩:=F.out;have ah:d.es.length=L+l.length:=by rw[<-aa,<-A,<-bf,<-z,<-D,eh]
 obtain⟨r,y⟩:=cJ S;have ae:r<l.length:=(aM.1 y).1;rcases Z with⟨_,E,_⟩|⟨⟨g,rfl⟩,O⟩
 ·omega
 have K:=B.more u (aj _);obtain⟨_,_,_,_,_,_,_,_,U,_⟩:=K;have x:v.cell? ⟨h,0,none⟩=some (ab a):=af U 0;have T:=fh _ _ x;refine⟨g,_,c,rfl,⟨by omega,O⟩,(tX h _ _ _ (λj=>match w[L+j]? with|some ev=>decide (ev.1=mY/\ev.2.1=a/\ev.2.2.1=4)|none=>false) v (by omega) λj ag=>?_).mono ?_⟩
 ·obtain⟨ev,f⟩:∃ev,w[L+j]?=some ev:=⟨_,aE (by omega)⟩;rcases ad.1 with E|⟨H,G,_,R,P⟩
  ·rw[E]at f;simp at f
  obtain rfl:g=H:=by simpa using G
  have k:∀(t:Nat)(o:Value),(Fg ev)[t]?=some o->v.cell? ⟨g,L*7+j*7+t,none⟩=some o:=λt o Y=>by
   rw[<-Nat.add_mul];exact P _ ev f t o Y
  simp only[f];exact⟨g,L*7,ev.1,ev.2.1,ev.2.2.1,ev.2.2.2.1.1,ev.2.2.2.1.2.1,ev.2.2.2.1.2.2,ev.2.2.2.2.1.1,ev.2.2.2.2.2.length,ev.2.2.2.2.1.2,⟨rfl,R,k 0 _ rfl,k 1 _ rfl,k 2 _ rfl,k 3 _ rfl,k 4 _ rfl,k 5 _ rfl,k 6 _ rfl⟩,λW M=>zn h a _ _ _ _ _ _ _ _ _ W ((M.cell (p:=⟨h,0,none⟩) T).trans x)⟩
 ·rintro e w2 ⟨t,rfl,X,N⟩;refine⟨?_,B.more (u.trans (N.mono u.size)) (aj _)⟩;have:t=true:=by
   refine X.2 ⟨r,by omega,?_⟩;have f:s.evs[L+r]?=some (mY,a,4,sJ):=by
    rw[z,dN (by omega),A,Nat.add_sub_cancel_left];exact y
   rw[<-D,dh]at f;obtain⟨ev,J,i⟩:=cd.1 f;simp only[J];unfold Ns at i;simp only[ei]at i;exact gj ⟨i.1,i.2.1,i.2.2.1⟩
  rw[this]
theorem JI{w0:World}{Y:Nat}{a:Int}{t j:Nat}{W:World}(aG:Kf w0 Y a t j W)(bf:j<=100){n:Nat}(c:Hn n)(aT:EE n w0.heap.size w0 c)(aO:(av (n+1) c.2).length<=2097152)(U:¬(c.1.1=2/\c.1.2.2=a\/c.1.1≠2/\c.1.2.1=a)):N9 Y t a (.agg #[ab c.1.1,ab c.1.2.1,ab c.1.2.2,ab c.2.1.1,ab c.2.1.2.1,ae c.2.1.2.2,.slice c.2.2.1.1 c.2.2.2.length c.2.2.1.2]) (Kf w0 Y a t (j+1)) W:=by
 obtain⟨r,G,J,rfl,v,P,aH,⟨ah,al⟩,am,an⟩:=aG;have aZ:=(aC.1 am).1
 -- behind Do:what is new,and where the system is
 have ap:∀w A q,ai W w->ai w A->ai A q->∀(s:Nat)(o:Obj),A.heap[s]?=some o->w.heap.size<=s->ak 8 #[.pointer (some ⟨r.b,0,none⟩),.agg #[ab c.1.1,ab c.1.2.1,ab c.1.2.2,ab c.2.1.1,ab c.2.1.2.1,ae c.2.1.2.2,.slice c.2.2.1.1 c.2.2.2.length c.2.2.1.2]] q λf u=>∃H,f=.returned (ab H)/\Hid ((u.heap[t]?=q.heap[t]? /\u.heap[s]?=q.heap[s]?)/\Kf w0 r.b a t (j+1) u/\bk (λh=>J.ow h≠0) q u/\∃C,aX r (G.do r.n r.prog r.room c.1.1 c.1.2.1 c.1.2.2 (n+1) c.2).1 C u/\C.es.length<=100000/\C.k<=47000):=λw A q m x y s o K R=>by
  have I:=m.trans (x.mono m.size);have M:=I.trans (y.mono I.size);have bg:=(aC.1 K).1;have bm:=m.size;have bn:=y.size;refine(NW (i:=4+j) (v.later M) P aH (by omega) (ah.trans (M.mono ah.size)) al c aT aO (λ_=>True) trivial).mono ?_;rintro f u ⟨H,rfl,g⟩;obtain⟨aP,C,z,F⟩:=g.out;have au:t<q.heap.size:=aL aZ M.size;have af:u.heap[t]?=q.heap[t]? :=F.1.block t au λd=>d an;have aF:u.heap[s]?=q.heap[s]? :=F.1.block s (by omega) λd=>d (v.nobody (by omega));have a1:=F;obtain⟨_,_,aA,S,bq,br⟩:=a1;refine⟨H,rfl,⟨af,aF⟩,⟨r,_,C,rfl,z,P.do _ _ _ _ _,by omega,⟨aP.below,al⟩,?_,?_⟩,F.1,C,z,by omega,by omega⟩
  ·rw[af];exact en M am
  ·rw[F.2.1 t au];exact an
 unfold N9;cases hg:G.get a with
 | none=>
  refine(v.procN hg).mono ?_;rintro f w ⟨rfl,m⟩;refine⟨_,_,_,_,_,_,_,_,_,_,_,rfl,m,λA x=>?_⟩;have I:=m.trans (x.mono m.size);refine((v.later I).events (by omega)).mono ?_;rintro f q ⟨Z,aa,rfl,g⟩;obtain⟨y,_⟩:=g.out;refine⟨Z,_,aa,rfl,by omega,y,λs K R=>?_⟩;refine(ap w A q m x y s _ K R).mono ?_;rintro f u ⟨H,rfl,g⟩;obtain⟨X,L,_,C,z,ay,V⟩:=g.out;refine⟨H,rfl,X,?_⟩;cases E:(G.do r.n r.prog r.room c.1.1 c.1.2.1 c.1.2.2 (n+1) c.2).1.get a with
  | none=>
   refine(z.procN E).mono ?_;rintro f D ⟨rfl,e⟩;exact⟨_,_,_,_,_,_,_,_,_,_,_,rfl,e,λB p=>⟨λd=>absurd d (by decide),λd=>absurd d (by decide),λ_=>L.more (e.trans (p.mono e.size)) (aj _)⟩⟩
  | some a9=>
   obtain⟨az,ad,T⟩:=a9;refine(z.procS E (ax ((P.do _ _ _ _ _).get E) (by decide)) V).mono ?_;rintro f D ⟨ba,aA,S,bb,bd,bc,a3,a4,rfl,g⟩;obtain⟨_,e⟩:=g.out;exact⟨_,_,_,_,_,_,_,_,_,_,_,rfl,e,λB p=>⟨λd=>absurd d (by decide),λd=>absurd d (by decide),λ_=>L.more (e.trans (p.mono e.size)) (aj _)⟩⟩
 | some a8=>
  obtain⟨az,ad,T⟩:=a8;have aI:ex a (az,ad,T) G.evs G:=by
   obtain⟨_,F,aw,bh,bi,_⟩:=v.keys;obtain⟨h,Q,f⟩:∃h∈G.ps,h.1=a:=by
    unfold Sy.get at hg;obtain⟨h,Q,_⟩:=cd.1 hg;exact⟨h,rX Q,by simpa using List.find?_some Q⟩
   refine⟨F,λk U=>?_,by rw[<-f];exact(aw h Q).2,[],by simp,ag hg⟩;obtain⟨a5,a0,rfl⟩:=bU.1 U;exact(aw a5 a0).2
  obtain⟨_,_,_,l,aW,aJ⟩:=aI.do r.prog r.room U (n+1) c.2;have aq:=P.get hg;have aU:T.length<=20:=by
   obtain⟨b,aS⟩:∃b,cN J.l a=some b:=by
    have:=v.alive a;rw[hg]at this;exact fJ.1 this
   obtain⟨_,_,_,f,_,d⟩:=v.ps a b aS;rw[hg]at f;simp only[iM,ei]at f;rw[f.2.2];exact d
  refine(v.procS hg (ax aq (by decide)) (by omega)).mono ?_;rintro f w ⟨y0,y1,y2,ya,yl,yc,bj,bl,rfl,g⟩;obtain⟨⟨aQ,aM⟩,m⟩:=g.out;refine⟨_,_,_,_,_,_,_,_,_,_,_,rfl,m,λA x=>?_⟩;have I:=m.trans (x.mono m.size);refine((v.later I).events (by omega)).mono ?_;rintro f q ⟨Z,aa,rfl,g⟩;obtain⟨y,_,be,a6,a7,_⟩:=g.out;have aK:G.evs.length=J.es.length:=by rw[<-a7,eh,a6]
  refine⟨Z,_,aa,rfl,by omega,y,λs K R=>?_⟩;refine(ap w A q m x y s _ K R).mono ?_;rintro f u ⟨H,rfl,g⟩;obtain⟨X,L,a2,C,z,ay,V⟩:=g.out
  -- what was told before is as it was
  have aV:∀D B,ai u D->ai D B->bk (λh=>J.ow h≠0) w B:=λD B e p=>by
   have aB:=x.trans (y.mono x.size);have N:=e.trans (p.mono e.size);exact((aD aB _).trans a2 λ_ _ d=>d).trans (aD N _) λ_ _ d=>d
  have ar:∀h,W.heap.size<=h->h<w.heap.size->¬J.ow h≠0:=λh d _ S=>S (v.nobody d);refine⟨H,rfl,X,?_⟩;rcases aJ with E|⟨E,aY⟩
  ·refine(z.procS E (ax aq (by decide)) V).mono ?_;rintro f D ⟨ba,aA,S,bb,bd,bc,a3,a4,rfl,g⟩;obtain⟨⟨aR,aN⟩,e⟩:=g.out;refine⟨_,_,_,_,_,_,_,_,_,_,_,rfl,e,λB p=>⟨λ_ _=>⟨rfl,?_⟩,λ_ d=>absurd rfl d,λd=>absurd rfl d⟩⟩;have ao:=aV D B e p;refine(FO (aQ.kee ao ar) (aR.kee (aD p λ_=>False) λ_ _ _ d=>d)).mono ?_;rintro f bo ⟨rfl,O⟩;refine⟨rfl,(Ay ((aM.kee ao ar).kee (aD O λ_=>False) λ_ _ _ d=>d) ((aN.kee (aD p λ_=>False) λ_ _ _ d=>d).kee (aD O λ_=>False) λ_ _ _ d=>d) aU).mono ?_⟩;rintro f bp ⟨rfl,aE⟩;exact⟨rfl,L.more ((e.trans (p.mono e.size)).trans ((O.trans (aE.mono O.size)).mono (ax e.size p.size))) (aj _)⟩
  ·refine(z.procN E).mono ?_;rintro f D ⟨rfl,e⟩;refine⟨_,_,_,_,_,_,_,_,_,_,_,rfl,e,λB p=>⟨λ_ d=>absurd d (by decide),λ_ _=>?_,λd=>absurd rfl d⟩⟩;have N:=e.trans (p.mono e.size);exact LF rfl (z.later N) (L.more N (aj _)) ay aK aW aY
theorem EL(n:Nat)(l:List (Bh (n+1)))(t:Option Addr)(q:Nat)(room:Int)(r:Nat)(m:List (Sk r))(sa:Option Addr)(sc:Nat)(u:Nat)(xs:List (Hn u))(xa:Option Addr)(xc:Nat)(E:Int)(w:World)(N:gM (n+1) w.heap.size w t l)(O:l.length<=q)(Q:q<=maxLen)(K:jP (n+1) l=true->(av (n+6) (bW n l)).length<=2097152)(S:pr w.heap.size w 5 (NT r) (G9 r w.heap.size w) sa m)(T:∀c∈m,(av (r+1) c.2).length<=2097152)(U:pr w.heap.size w 7 (N5 u) (EE u w.heap.size w) xa xs)(V:∀c∈xs,(av (u+1) c.2).length<=2097152)(H:m.length<=1048576)(I:xs.length<=1048576):ak 4 #[.slice t l.length q,ab room,.slice sa m.length sc,.slice xa xs.length xc,ab E] w λe w'=>e=.returned (.bool true)/\ai w w':=by
 obtain⟨f,A⟩:=IB xs ((0,0,0),((0,0,⟨#[]⟩),(none,0),[]));have k:∀{d:World}{i o:Nat}{y:Value},ai w d->i<w.heap.size->w.cell? ⟨i,o,none⟩=some y->d.cell? ⟨i,o,none⟩=some y:=λ{d i o y} b h g=>(b.cell (p:=⟨i,o,none⟩) h).trans g
 refine BX t l.length q room sa m.length sc xa xs.length xc E (λa=>(f a).1.1) (λa=>(f a).1.2.1) (λa=>(f a).1.2.2) (λa=>(f a).2.1.1) (λa=>(f a).2.1.2.1) (λa=>(f a).2.1.2.2) (λa=>(f a).2.2.1.1) (λa=>(f a).2.2.2.length) (λa=>(f a).2.2.1.2) w
  (MB w) (Kf w) I (Js w) (λd L=>(Dq (λ_=>True) trivial (λ_ _ _ _=>trivial) n l t q room r m sa sc w d N O Q K S T H L).mono ?_) (λs n d g=>?_) (λs p Y a d g=>?_) (λs n d g=>JH g) (λs p Y a d B aa x=>?_)
 ·rintro e w' (⟨rfl,g⟩|⟨s,rfl,F⟩)
  ·exact ag ⟨rfl,g⟩
  ·obtain⟨p,D,G,v,C,⟨X,_⟩,_,W,b,P⟩:=F.out;exact ah ⟨s,D.ps.length,rfl,C.keys.2.2.2.2.2,p,D,G,v,C,X,rfl,W,b,P⟩
 ·obtain⟨_,_,_,_,_,_,_,_,b,_⟩:=g;exact b
 ·obtain⟨_,_,_,_,_,_,_,⟨b,_⟩,R,_⟩:=g;exact⟨b,af R 0⟩
 ·have b:ai w d:=by
    obtain⟨_,_,_,_,_,_,_,⟨b,_⟩,_⟩:=x;exact b
  obtain⟨i,o,v,h,j,J⟩:=IH U (A a B);exact⟨i,o,⟨v,k b h (j 0 _ rfl),k b h (j 1 _ rfl),k b h (j 2 _ rfl),k b h (j 3 _ rfl),k b h (j 4 _ rfl),k b h (j 5 _ rfl),k b h (j 6 _ rfl)⟩,λZ z=>⟨x.more z (fe a),λM=>JI (x.more z (aj _)) (by omega) (f a) J (V _ (aG (A a B))) M⟩⟩
theorem tB:(N n:Nat)->n<=N->(x:Tm n)->wt N (aN N n x)=wt n x
 | 0,0,_,_=>rfl
 | N+1,0,_,_=>by simp[aN,wt]
 | N+1,n+1,h,x=>by
  simp only[aN,wt,fI];congr 2;refine jf λy _=>?_;exact tB N n (by omega) y
theorem J7:(n:Nat)->(x:Tm n)->1<=wt n x
 | 0,_=>by simp[wt]
 | n+1,x=>by simp only[wt];omega
theorem qR{a:Type}(f g:a->Nat)(c:Nat):(l:List a)->(∀y∈l,f y<=g y+c)->(l.map f).sum<=(l.map g).sum+l.length*c
 | [],_=>by simp
 | y::l,h=>by
  have e:=h y (by simp);have i:=qR f g c l λd b=>h d (by simp[b]);simp only[aI,bC,aZ,Nat.add_mul,Nat.one_mul];omega
theorem mV(s:ByteArray)(N:Nat):wt (N+1) (aW s N)=1+s.size:=by simp[wt,aW]
theorem nP(N:Nat)(l:List (Tm N)):wt (N+1) (cU N l)=1+(l.map (wt N)).sum:=by simp[wt,cU]
theorem LW(k a:Int)(N:Nat):wt (N+1) (bJ k a N)=1:=by simp[wt,bJ]
theorem J8(n:Nat)(a:Ac (n+1)):wt (n+2) (bY n a)<=Me (n+1) a+8:=by
 have f:=J7 (n+1) a.2.1.1;have g:=J7 (n+1) a.2.1.2;have b:lU.size=4:=rfl;have c:iF.size=5:=rfl;have d:lT.size=4:=rfl;have e:ld.size=4:=rfl;unfold bY Me;split
 ·rw[nP];simp only[aI,bR,bC,jh,mV];omega
 ·split
  ·rw[nP];simp only[aI,bR,bC,jh,mV,LW];omega
  ·split
   ·rw[nP];simp only[aI,bR,bC,jh,mV];omega
   ·rw[nP];simp only[aI,bR,bC,jh,mV];omega
theorem Ka(n:Nat)(c:Cl (n+1))(b:sO (n+1) c=true):wt (n+4) (du n c)<=Mf (n+1) c+68:=by
 have h:Kj.size=2:=rfl;have i:c.2.2.length<=8:=by
  simp only[sO,aB,bX]at b;omega
 have d:=qR (λa=>wt (n+2) (bY n a)) (Me (n+1)) 8 c.2.2 λa _=>J8 n a;have e:=tB (n+3) (n+1) (by omega) c.1.1;have f:=tB (n+3) (n+1) (by omega) c.1.2.1;have g:=tB (n+3) (n+1) (by omega) c.1.2.2;unfold du Mf;rw[nP];simp only[aI,bR,bC,jh,mV,nP,fI,e,f,g];have j:(c.2.2.map (wt (n+2) ∘ bY n)).sum<=(c.2.2.map (Me (n+1))).sum+c.2.2.length*8:=d;omega
theorem J9(n:Nat)(b:Bh (n+1))(c:vt (n+1) b=true):wt (n+5) (dC n b)<=Kk (n+1) b+413:=by
 have e:te.size=3:=rfl;simp only[vt,aB,bX,b9]at c;have g:(b.2.2.map (wt (n+4) ∘ du n)).sum<=(b.2.2.map (Mf (n+1))).sum+b.2.2.length*68:=qR (λa=>wt (n+4) (du n a)) (Mf (n+1)) 68 b.2.2 λa d=>Ka n a (c.2 a d);have f:b.2.2.length<=6:=by omega
 unfold dC Kk;rw[nP];simp only[aI,bC,mV,fI];omega
theorem Kb(n:Nat)(p:List (Bh (n+1)))(b:jP (n+1) p=true):wt (n+6) (bW n p)<=(p.map (Kk (n+1))).sum+2897:=by
 have d:nd.size=4:=rfl;simp only[jP,aB,bX,b9]at b;have f:(p.map (wt (n+5) ∘ dC n)).sum<=(p.map (Kk (n+1))).sum+p.length*413:=qR (λa=>wt (n+5) (dC n a)) (Kk (n+1)) 413 p λa c=>J9 n a (b.2 a c);have e:p.length<=7:=by omega
 unfold bW;rw[nP];simp only[aI,bC,mV,fI];omega
theorem AG(n:Nat)(p:List (Bh (n+1)))(a:jP (n+1) p=true)(d:(p.map (Kk (n+1))).sum<=1048576):(av (n+6) (bW n p)).length<=2097152:=by
 have b:=qE (n+6) (bW n p);have c:=Kb n p a;omega
end Go.Proofs.YtckamaoibonjcaaGreat
