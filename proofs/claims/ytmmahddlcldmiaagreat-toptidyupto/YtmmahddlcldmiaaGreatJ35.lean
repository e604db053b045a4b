/- Proved here: plain facts and contracts. No condition but what each names. -/
import Derived.Test.YtmmahddlcldmiaaGreatJ34
import Derived.Shelf.SortM.Plain
import Derived.Shelf.SortM.SortNone
import Derived.Test.YtmmahddlcldmiaaGreatJ33
namespace Go.Proofs.YtmmahddlcldmiaaGreat
open Go.RowKit Go.Maps Go.Sort Go.Shelf Go.Proofs.Tryz
open Go.RowKit
open Go.ChangeShapes Go.WideShapes Go.ChangeAt Go.RowKit
set_option maxRecDepth 100000
set_option maxHeartbeats 1000000
theorem Mo{k:Type}{f:k->Value}{w:World}{j:Nat}{l:List (Int×k)}(n:ww f w j l)(r:∀p∈l,(Lit.int .i64 p.1).wf=true)(z:l.length<=maxLen):∃D:DataW Value,w.ownsMap Tryz.prog 3 mF j l.length D/\(intKeys D).Perm (l.map (·.1))/\Maps.size D=l.length:=by
 obtain⟨es,m,o,e,q⟩:=n;have i:∀a∈es.toList,∃b,a.key=.int .i64 b/\WideElems.rd Tryz.prog 3 mF a=some (.int .i64 b,.held a.val):=λa d=>by
  have u:(a.key,a.val)∈l.map λp=>(Value.int .i64 p.1,f p.2):=e▸b9.2 ⟨a,d,rfl⟩;obtain⟨p,s,c⟩:=b9.1 u;have g:a.key=.int .i64 p.1:=(congrArg Prod.fst c).symm;refine⟨p.1,g,?_⟩;unfold WideElems.rd;rw[g,keyOf_int_mk underlying3 (r p s)];rfl
 have t:es.size=l.length:=by
  have:=congrArg List.length e;simpa using this
 refine⟨_,⟨es,m,o,⟨by omega,q,λa d=>?_⟩,by omega,rfl⟩,?_,?_⟩
 ·obtain⟨b,_,c⟩:=i a d;exact⟨_,c⟩
 ·have c:es.toList.map (λa=>Go.intOf (WideElems.rg Tryz.prog 3 mF a).1)=l.map (·.1):=by
    have h:=congrArg (List.map λy:Value×Value=>match y.1 with| .int _ b=>b|_=>0) e;rw[gz,gz]at h;refine(jl λa d=>?_).trans (h.trans (jl λp _=>rfl));obtain⟨b,v,x⟩:=i a d;rw[WideElems.rg_of x];simp only[Function.comp,v,Go.intOf]
  rw[<-c];have:=(WideShapes.sorted_perm (es.toList.map (WideElems.rg Tryz.prog 3 mF))).map λp=>Go.intOf p.1;rw[gz]at this;exact this
 ·rw[<-t];simpa [Maps.size]using (WideShapes.sorted_perm (es.toList.map (WideElems.rg Tryz.prog 3 (mF)))).length_eq
theorem Ow(m:Nat):AnyZI.SortsIn Tryz.prog Tryz.sortedA_ren Fence.wide m:=
 ⟨λb off cap g a c d e=>kR.2 (AnyM.slices_Sort_int Tryz.sortA b off cap g a c d e),λf cap a=>kR.2 (AnyM.slices_Sort_int_none Tryz.sortA f cap a)⟩
theorem uu(g:Nat)(f:Option Nat)(w:World)(S:List Int->Prop)(N:Nat)(m:w.cell? ⟨g,3,none⟩=some (.map f))(o:N<=1000)(l:SeqGives Fence.wide 2 Tryz.prog 59 #[.pointer (some ⟨w.heap.size,0,none⟩)] encZ S N (w.alloc (.cells #[.map f] 67))):Calls Tryz.prog 12 #[.pointer (some ⟨g,0,none⟩)] w λe w'=>∃v c,e=.returned v/\S c/\iG w.heap.size v (c.mergeSort leI) w'/\Below w.heap.size w w':=by
 refine(kR (n:=6)).1 ?_;have h:∀b a,CallsIn Fence.wide 5 Tryz.prog 31 #[.map b] a λe w'=>e=.returned (.func (.func 59) #[] #[.pointer (some ⟨a.heap.size,0,none⟩)])/\w'=a.alloc (.cells #[.map b] 67):=λb a=>AnyZI.keys_in Tryz.keysA Fence.wide 5 trivial rfl b a;have d:=AnyZI.sorted_in Tryz.sortedA Fence.wide 5 trivial trivial trivial trivial rfl (by omega) (Ow _) (enters_of func58 (by kernel_rfl) rfl) 59 #[.pointer (some ⟨w.heap.size,0,none⟩)] trivial (enters_of func59 (by kernel_rfl) rfl) _ _ (by unfold maxLen;omega) (by omega) _ l;change CallsIn _ _ Tryz.prog 30 _ _ _ at d;have p:Fence.wide.fn 31:=trivial;have q:Fence.wide.fn 30:=trivial;refine callsIn_of_wp func12 rfl trivial ?_ rfl;simp only[ntmps12,dO,bi,iw,Nat.reduceAdd,Nat.reduceSub,pe,pf,pw,pj,jJ,eG]
 gi_wp2_with (first
  | (gi_at_call 31;refine(h _ _).mono ?_;rintro e w' ⟨rfl,rfl⟩)
  | (gi_at_call 30;refine d.mono ?_;rintro e w' ⟨v,c,rfl,i,k,r,j⟩))
 go_ret
 refine⟨v,c,rfl,i,?_,((ao _ w).alloc (am _) _).trans (j.mono (by simp))⟩;have:=ownsRow_base_a k (by simp:w.heap.size<=_);unfold iG;rw[List.length_mergeSort];exact this
section
variable {p:jY} {s:Sy} {d:fT} {w:World}
theorem bj.aliveL(i:bj p s d w):Calls Tryz.prog 12 #[.pointer (some ⟨p.b,0,none⟩)] w λe w'=>∃v q,e=.returned v/\q.Perm (s.ps.map (·.1))/\q=(s.ps.map (·.1)).mergeSort leI/\iG w.heap.size v q w'/\Below w.heap.size w w':=by
 obtain⟨c,C,u,D,E,F⟩:=i.keys;have G:d.l.length=s.ps.length:=by
  have:=congrArg List.length c;simpa using this
 have g:=i.cells.2.2.2;have o:Below w.heap.size w (w.alloc (.cells #[.map d.po] 67)):=(ao _ w).alloc (am _) _;rcases i.pm with⟨n,h⟩|⟨k,n,_,_,h⟩
 ·rw[n]at g o;refine(uu p.b none w (λa=>a=[]) 0 g (by omega) (AnyZI.keys_gives_nil (ρ:=Tryz.keysA_ren) {Tryz.keysA with} Fence.wide _ trivial rfl w.heap.size _ (by simp) (by simp))).mono ?_;rintro e w' ⟨v,a,rfl,rfl,f,j⟩;exact⟨v,[],rfl,by rw[<-c,h];exact List.Perm.refl _,by rw[<-c,h];simp,by simpa using f,j⟩
 ·rw[n]at g o;have j:=i.low k (by omega)
  obtain⟨m,z,A,H⟩:=Mo (h.kept (o.block k (by omega))) (λt y=>by
   have:t.1∈s.ps.map (·.1):=c▸b9.2 ⟨t,y,rfl⟩;obtain⟨B,f,e⟩:=b9.1 this;have:=u B f;simp[Lit.wf,IntKind.min,IntKind.max,IntKind.signed,IntKind.bits]
   omega) (by unfold maxLen;omega)
  refine(uu p.b (some k) w (λa=>a.Perm (intKeys m)) (Maps.size m) g (by omega) (AnyZI.keys_gives (ρ:=Tryz.keysA_ren) {Tryz.keysA with} Fence.wide _ trivial rfl (by omega) w.heap.size k _ m _ (by simp) (by simp) z)).mono ?_;rintro e w' ⟨v,a,rfl,x,f,j⟩;have r:=x.trans (A.trans (List.Perm.of_eq c));exact⟨v,_,rfl,(List.mergeSort_perm a leI).trans r,mergeSort_of_perm_i r,f,j⟩
end
theorem wa{s:ByteArray}{t:Tc}(k:oF s 13 t)(n:bz 13 t=0)(W:World):ak 22 #[ab 1,af s] W λe w'=>∃y0 y1 y2 ya yl yc,e=.returned (.agg #[ab 3,ab 1,ab 0,ab y0,ab y1,af y2,ae ya yl yc])/\Hid (ni t W.heap.size y0 y1 y2 ya yl yc w'/\aj W w'):=by
 refine Il 1 s W (λy0 y1 y2 ya yl yc d=>ni t W.heap.size y0 y1 y2 ya yl yc d) λj w x=>(BN k n j).mono ?_;rintro e w' ⟨b,a,rfl,i⟩;obtain⟨l,f,m,g⟩:=i;have y:=g.size;refine⟨_,_,_,_,_,_,rfl,g,λd o=>?_⟩;have p:ni t (W.heap.size+1) a.1.1 a.1.2.1 a.1.2.2 a.2.1.1 a.2.2.length a.2.1.2 w':=⟨b,a,⟨rfl,rfl,rfl⟩,l,f,(In.offB m f).mono λh c=>⟨by omega,c.2⟩⟩;obtain⟨b,a,q,r,u,v⟩:=p.kee o λh z A B=>by omega
 exact⟨b,a,q,r,u,v.mono λh c=>⟨by omega,c.2⟩⟩
theorem CL.grow{w0:World}{V V':Nat->Prop}{j:World}{s:Sy}{i g:Nat}{W b:World}(l:CL w0 V j s i g W)(d:aj W b)(r:∀q,V' q->V q\/(W.heap.size<=q/\q<b.heap.size)):CL w0 V' b s i g b:=by
 obtain⟨t,e,k,f,m,n,c,o,p⟩:=l;have u:=p.size;have v:=d.size;refine⟨t,e,k,f.later d,m,n,⟨c.1.trans (d.mono c.1.size),c.2⟩,λq a=>?_,bt.refl _ _⟩;rcases r q a with a|a
 ·have:=o q a;exact⟨by omega,this.2⟩
 ·refine⟨a.2,?_⟩;by_cases h:e.ow q=0
  ·exact h
  ·have:=(f.low q h).2;omega
theorem Ev(w0:World){a:Nat}{W:World}(l:ul w0 MW 0 a W):ak 20 #[aC a,af qJ,.agg #[ab 1,ab 2,af ⟨#[]⟩,ae none 0 0]] W λe w'=>e=.returned (.tuple #[ab 1,ab 0])/\Hid (ul w0 F8 1 a w'):=by
 obtain⟨p,u,rfl,b,⟨c,d⟩,v,m,f⟩:=l;have o:In W.heap.size W 1 (L0 2 0):=Bk 1 2 0 (by unfold dx;omega) (by unfold dx;omega) _ _;refine(b.start qJ (by decide) (L0 2 0) o (by decide) (by omega) (by omega)).mono ?_;rintro e w' ⟨s,q,rfl,j⟩;obtain⟨⟨g,n⟩,k,h,i⟩:=j;rw[c,vT d]at g h;have r:q=0:=g.trans F9.1;subst r;have t:s=1:=n rfl;subst t;exact⟨rfl,p,k,rfl,h,⟨c,d⟩,by obtain⟨_,_,w,x,y,z⟩:=i;omega,m.trans (rU b i f),f⟩
theorem MN{g:Nat}{W:World}(b:W.heap[g]?=some (.cells #[ab 1,ab 2] 3)):qO (ae (some ⟨g,0,none⟩) 2 2) [1,2] W:=by
 refine⟨_,_,rfl,ai ⟨g,0,rfl,(aF.1 b).1,λi k a=>?_⟩⟩
 match i,a with
 | 0,a=>
  obtain rfl:1=k:=by simpa using a
  exact ag b 0
 | 1,a=>
  obtain rfl:2=k:=by simpa using a
  exact ag b 1
 | i+2,a=>simp at a
def tI:Tm 1:=((0,0,⟨#[]⟩),(none,0),[])
theorem Kd(B:Nat)(w:World):In B w 1 tI:=⟨⟨by simp[tI,dx],by simp[tI,dx],aH _,by simp[tI],by simp[tI]⟩,ah rfl⟩
theorem jt{a b:Int}(c:0<=a/\a<=9/\0<=b/\b<=9):I2 (a,b):=by
 unfold I2 dx;simp only;omega
def PZ(m a:Nat):Nat->Nat
 | 0=>m
 | 1=>0
 | 2=>a
 | _+3=>0
def xF{m a:Nat}(x:Tm (m+1))(x':Tm (a+1)):(j:Nat)->Tm (PZ m a j+1)
 | 0=>x
 | 1=>tI
 | 2=>x'
 | _+3=>tI
theorem ni.parts{t:Tc}{B:Nat}{y0 y1:Int}{y2:ByteArray}{ya:Option Addr}{yl yc:Nat}{W:World}(b:ni t B y0 y1 y2 ya yl yc W)(e:bz 13 t=0):∃(m:Nat)(l:List (Tm m)),l.length=yl/\ax (m+1) ((y0,y1,y2),(ya,yc),l) 13 t=true/\In W.heap.size W (m+1) ((y0,y1,y2),(ya,yc),l)/\ch (λq=>B<=q/\q<W.heap.size) (m+1) ((y0,y1,y2),(ya,yc),l)/\(ay (m+1) ((y0,y1,y2),(ya,yc),l)).length<=2097152:=by
 obtain⟨m,f,⟨f1,f2,f3⟩,a,c,d⟩:=b;obtain⟨⟨h,i,j⟩,⟨k,n⟩,g⟩:=f;simp only[eh]at f1 f2;obtain⟨rfl,rfl,rfl⟩:=f1;obtain⟨rfl,rfl⟩:=f2;exact⟨m,g,f3,a,c,d,fi ((bQ a).trans e)⟩
theorem Er(w0:World){t r g m B2:Nat}{n d f h:World}{y0 y1:Int}{y2:ByteArray}{ya:Option Addr}{yl yc:Nat}{u v:Int}{w:ByteArray}{x:Option Addr}{B y:Nat}(D:ul w0 F8 1 t n)(F:aj n d/\n.heap.size=r/\II r d)(am:r<m/\r<B2)(M:ni vu m y0 y1 y2 ya yl yc d)(p:aj d f)(N:ni (bf tz 12) B2 u v w x B y f)(j:aj f h)(J:f.heap.size<=g/\h.heap[g]?=some (.cells #[ab 3,ab 1,ab 0,ab y0,ab y1,af y2,ae ya yl yc,ab 1,ab 1,ab 0,ab 0,ab 0,af ⟨#[]⟩,ae none 0 0,ab 3,ab 1,ab 0,ab u,ab v,af w,ae x B y,ab 1,ab 1,ab 0,ab 0,ab 0,af ⟨#[]⟩,ae none 0 0,ab 2,ab 1,ab 2,ab 0,ab 0,af ⟨#[]⟩,ae none 0 0,ab 1,ab 2,ab 0,ab 0,ab 0,af ⟨#[]⟩,ae none 0 0] 33)):ak 21 #[aC t,ae (some ⟨g,0,none⟩) 6 6] h λe w'=>e=.returned (.bool true)/\Hid (CL w0 (λq=>q=r) w' (yW F8 Lu) 7 t w'/\II r w'):=by
 obtain⟨o,ad,z⟩:=F;obtain⟨O,Z,rfl,Q,R,S,T⟩:=M.parts qF.2.1;obtain⟨P,aa,rfl,U,W,X,Y⟩:=N.parts qF.2.2.1;obtain⟨al,a⟩:=J;have an:=(aF.1 a).1;have L:=(aF.1 z).1;have ap:=o.size;have aq:=p.size;have ar:=j.size;have i:=p.trans (j.mono p.size);have E:=o.trans (i.mono o.size);have K:=(i.block r L).trans z;have I:=D.from E (V:=λq=>q=r\/q=g\/(m<=q/\q<d.heap.size)\/(B2<=q/\q<f.heap.size)) λq c=>by rcases c with c|c|c|c<;>omega
 have k:∀{V:Nat->Prop},In h.heap.size h 1 tI/\ch V 1 tI:=λ{V}=>⟨Kd _ _,ah rfl⟩;have l:(ay 1 tI).length<=2097152:=by decide
 refine(Cs I Lu Jn (by decide) g 6 (ai (ah rfl)) (PZ O P) (xF ((y0,y1,y2),(ya,yc),Z) ((u,v,w),(x,y),aa)) (λs e b=>?_) (λs e b=>?_)).mono ?_
 ·match s,b with
  | 0,b=>
   obtain rfl:(3,1,0,vu)=e:=aw b;exact⟨⟨(R.below i).mono i.size,S.mono λq c=>ai (ai (ah c))⟩,T,ah Q,jt (by decide)⟩
  | 1,b=>
   obtain rfl:(1,1,0,tA)=e:=aw b;exact⟨k,l,ai (by decide),jt (by decide)⟩
  | 2,b=>
   obtain rfl:(3,1,0,bf tz 12)=e:=aw b;exact⟨⟨(W.below j).mono j.size,X.mono λq c=>ai (ai (ai c))⟩,Y,ah U,jt (by decide)⟩
  | 3,b=>
   obtain rfl:(1,1,0,tA)=e:=aw b;exact⟨k,l,ai (by decide),jt (by decide)⟩
  | 4,b=>
   obtain rfl:(2,1,2,tA)=e:=aw b;exact⟨k,l,ai (by decide),jt (by decide)⟩
  | 5,b=>
   obtain rfl:(1,2,0,tA)=e:=aw b;exact⟨k,l,ai (by decide),jt (by decide)⟩
  | _+6,b=>cases b
 ·match s,b with
  | 0,b=>
   obtain rfl:(3,1,0,vu)=e:=aw b;exact⟨ag a 0,ag a 1,ag a 2,ag a 3,ag a 4,ag a 5,ag a 6⟩
  | 1,b=>
   obtain rfl:(1,1,0,tA)=e:=aw b;exact⟨ag a 7,ag a 8,ag a 9,ag a 10,ag a 11,ag a 12,ag a 13⟩
  | 2,b=>
   obtain rfl:(3,1,0,bf tz 12)=e:=aw b;exact⟨ag a 14,ag a 15,ag a 16,ag a 17,ag a 18,ag a 19,ag a 20⟩
  | 3,b=>
   obtain rfl:(1,1,0,tA)=e:=aw b;exact⟨ag a 21,ag a 22,ag a 23,ag a 24,ag a 25,ag a 26,ag a 27⟩
  | 4,b=>
   obtain rfl:(2,1,2,tA)=e:=aw b;exact⟨ag a 28,ag a 29,ag a 30,ag a 31,ag a 32,ag a 33,ag a 34⟩
  | 5,b=>
   obtain rfl:(1,2,0,tA)=e:=aw b;exact⟨ag a 35,ag a 36,ag a 37,ag a 38,ag a 39,ag a 40,ag a 41⟩
  | _+6,b=>cases b
 ·rintro e w' ⟨rfl,C⟩;have A:=C.out;refine⟨rfl,A.grow (ao _ _) λq c=>ah (ah c),?_⟩;obtain⟨_,_,_,_,_,_,_,G,H⟩:=A;exact(H.block r (G r (ah rfl)).1 λc=>c (ah rfl)).trans K
def yx(w0:World)(a r:Nat)(W:World):Prop:=CL w0 (λq=>q=r) W (yW F8 Lu) 7 a W
theorem Ip(w0:World){m r q g B:Nat}{i f j:World}{y0 y1:Int}{y2:ByteArray}{ya:Option Addr}{yl yc:Nat}(w:yx w0 m r i)(y:aj i f/\i.heap.size<=q/\f.cell? ⟨q,1,none⟩=some (ab 7))(N:i.heap.size<=B)(E:ni (bf Cz 12) B y0 y1 y2 ya yl yc f)(u:II r f)(h:aj f j)(A:f.heap.size<=g/\j.heap[g]?=some (.cells #[ab 3,ab 1,ab 0,ab y0,ab y1,af y2,ae ya yl yc,ab 1,ab 1,ab 0,ab 0,ab 0,af ⟨#[]⟩,ae none 0 0] 33)):ak 21 #[aC m,ae (some ⟨g,0,none⟩) 2 2] j λe w'=>e=.returned (.bool true)/\Hid (ul w0 (yW (yW F8 Lu) O7) 9 m w'/\II r w'/\w'.cell? ⟨q,1,none⟩=some (ab 7)):=by
 obtain⟨k,L,n⟩:=y;obtain⟨F,K,rfl,G,H,I,J⟩:=E.parts qF.2.2.2;obtain⟨M,a⟩:=A;have O:=(aF.1 a).1;have C:q<f.heap.size:=fx f ⟨q,1,none⟩ n;have D:=(aF.1 u).1;have P:=k.size;have Q:=h.size;have x:=k.trans (h.mono k.size);have z:=w.grow x (V':=λb=>b=r\/b=q\/b=g\/(B<=b/\b<f.heap.size)) λb d=>by
  rcases d with d|d|d|d
  ·exact ah d
  all_goals exact ai (by omega)
 refine(Cs z O7 L6 (by decide) g 2 (ai (ai (ah rfl))) (PZ F 0) (xF ((y0,y1,y2),(ya,yc),K) tI) (λl e c=>?_) (λl e c=>?_)).mono ?_
 ·match l,c with
  | 0,c=>
   obtain rfl:(3,1,0,bf Cz 12)=e:=aw c;exact⟨⟨(H.below h).mono h.size,I.mono λb d=>ai (ai (ai d))⟩,J,ah G,jt (by decide)⟩
  | 1,c=>
   obtain rfl:(1,1,0,tA)=e:=aw c;exact⟨⟨Kd _ _,ah rfl⟩,show (ay 1 tI).length<=2097152 by decide,ai (by decide),jt (by decide)⟩
  | _+2,c=>cases c
 ·match l,c with
  | 0,c=>
   obtain rfl:(3,1,0,bf Cz 12)=e:=aw c;exact⟨ag a 0,ag a 1,ag a 2,ag a 3,ag a 4,ag a 5,ag a 6⟩
  | 1,c=>
   obtain rfl:(1,1,0,tA)=e:=aw c;exact⟨ag a 7,ag a 8,ag a 9,ag a 10,ag a 11,ag a 12,ag a 13⟩
  | _+2,c=>cases c
 ·rintro e w' ⟨rfl,v⟩;have t:=v.out;refine⟨rfl,t.at,?_⟩;obtain⟨_,_,_,_,_,_,_,o,s⟩:=t;refine⟨(s.block r (o r (ah rfl)).1 λd=>d (ah rfl)).trans ((h.block r D).trans u),?_⟩;rw[s.cell 1 (o q (ai (ah rfl))).1 λd=>d (ai (ah rfl))];exact(h.cell (p:=⟨q,1,none⟩) C).trans n
theorem Ij(w0:World){c r:Nat}{W:World}(f:yx w0 c r W):ak 15 #[aC c,ab 2] W λe w'=>∃nm l sa sl sc ma k b,e=.returned (.tuple #[af nm,.agg #[ab 1,ab 7,af l,ae sa sl sc],ae ma k b,ab 0])/\aj W w':=by
 obtain⟨s,o,rfl,g,_,p,_⟩:=f.at;obtain⟨⟨nm,n,m⟩,j,a⟩:=co.1 Jo;simp only[eh]at a;obtain⟨rfl,a⟩:=a;refine(g.procS j (by decide) (by omega)).mono ?_;rintro e w' ⟨y0,y1,y2,ya,yl,yc,ma,b,rfl,d⟩;obtain⟨⟨⟨q,t,⟨f1,_,_⟩,i,_⟩,_⟩,h⟩:=d;have:=(bG i).1;rw[f1,a]at this;simp only[eh]at this;obtain⟨rfl,rfl,rfl⟩:=this;exact⟨_,_,ya,yl,yc,ma,_,b,rfl,h⟩
theorem KD(w:World):ak 5 #[] w λe w'=>e=.returned (.bool true)/\aj w w':=by
 refine Hp w (yy w) (λd a=>ul w MW 0 d a) (λd a=>ul w F8 1 d a) (yx w) (λd a=>ul w (yW (yW F8 Lu) O7) 9 d a) (λf c a=>qO (ae f 2 c) [1,2] a) (ni vu) (ni (bf tz 12)) (ni (bf Cz 12)) (Ig w) (λf l c a b=>KX w b) (λd a b=>Ev w b) (λa=>wa Pj qF.2.1 a) (λa=>wa M4 qF.2.2.1 a) (λa=>wa OD qF.2.2.2 a) (λd r s H I y z A J y0 y1 y2 ya yl yc L M N O Q P b g m p k D C i=>Er w b g m p k D C i) (λd r a b=>Ij w b) (λd r a x b n=>?_) (λf c s a x b n i=>uV (b.later n) (MN i) (by decide)) (λd r K s G y z A y0 y1 y2 ya yl yc b g m p j k i=>Ip w b g m p j k i) λd a b=>?_
 ·obtain⟨E,B,rfl,g,_⟩:=b.at;refine((g.later n).aliveL).mono ?_;rintro e w' ⟨F,q,rfl,_,h,j,o⟩;rw[N5]at h;have h:q=[1,2]:=by
   rw[h];exact List.mergeSort_of_pairwise (by simp[leI])
  subst h;obtain⟨f,c,rfl,v⟩:=j.row;exact⟨f,c,rfl,⟨f,c,rfl,v⟩,o⟩
 ·obtain⟨E,B,rfl,g,_,_,t,_⟩:=b;refine g.aliveL.mono ?_;rintro e w' ⟨F,q,rfl,u,_,j,o⟩;rw[L5]at u;have h:q=[]:=List.Perm.eq_nil u;subst h;obtain⟨f,c,rfl,v⟩:=j.row;exact⟨f,c,rfl,t.trans (o.mono t.size)⟩
theorem Br{a:List Tc}{B i:Nat}{ma c:Option Addr}{f g:Nat}{W:World}(o:sU a B ma W)(p:sU a i c W)(u:a.length<=20):ak 17 #[ae ma a.length f,ae c a.length g] W λe w'=>e=.returned (.bool true)/\aj W w':=by
 obtain⟨ya,s,q,m,j,_⟩:=o;obtain⟨h,t,r,n,l,_⟩:=p;have k:=pR 13 13 (vM 13) ya h ma c f g W.heap.size W q r (by omega) (by omega) (am _);rw[tn ya h (λd b=>(j d b).1) (λd b=>(l d b).1) (m.trans n.symm),s,t]at k;exact k
theorem GS{t:Tc}{B m:Nat}{y0 y1 f g:Int}{y2 h:ByteArray}{ya i:Option Addr}{yl yc l j:Nat}{W:World}(p:ni t B y0 y1 y2 ya yl yc W)(q:ni t m f g h i l j W):ak 16 #[.agg #[ab y0,ab y1,af y2,ae ya yl yc],.agg #[ab f,ab g,af h,ae i l j]] W λe w'=>e=.returned (.bool true)/\aj W w':=by
 obtain⟨u,c,⟨f1,f2,f3⟩,v,r,_⟩:=p;obtain⟨n,d,⟨a,b,o⟩,w,s,_⟩:=q;have k:=vM (u+1) c (n+1) d W.heap.size W r s (am _);rw[bH _ _ _ _ _ _ v (dw _ _ _ _ w)]at k;obtain⟨⟨x,y,z⟩,⟨A,ac⟩,C⟩:=c;obtain⟨⟨D,E,F⟩,⟨G,H⟩,I⟩:=d;simp only[eh]at f1 f2 a b;obtain⟨rfl,rfl,rfl⟩:=f1;obtain⟨rfl,rfl⟩:=f2;obtain⟨rfl,rfl,rfl⟩:=a;obtain⟨rfl,rfl⟩:=b;subst f3;subst o;exact k
def O2(n:Nat)(l:List (Bh (n+1)))(room:Int)(w0:World)(i pa d:Nat)(s:Sy)(a:Option Addr)(m c:Nat)(W:World):Prop:=∃R H,iL n l room w0 R H i i pa d s s W/\∃b:List Int,b.length=m/\(∀k∈b,k∈s.ps.map (·.1))/\qO (ae a m c) b W
theorem OA{n:Nat}{l:List (Bh (n+1))}{room:Int}{w0 W:World}{R:Nat->Prop}{H:Nat->Obj}{i pa w:Nat}{s:Sy}(aU:i<=110)(h:iL n l room w0 R H i i pa w s s W):Pp pa w (λa m c W=>O2 n l room w0 i pa w s a m c W) W:=by
 have aa:=h;obtain⟨aW,O,o,V,⟨rfl,rfl⟩,d,e,_⟩:=h;obtain⟨aM,aN,aO,aP⟩:=d.2.2.2.1;obtain⟨aQ,aR,aS,aT⟩:=e.2.2.2.1;unfold Pp;refine(d.1.events (by omega)).mono ?_;rintro b aH ⟨x,z,rfl,Q⟩;obtain⟨v,_,X,f1,f2,f3⟩:=Q;have B:∀{b:fT}{O:jY}{W:World},bj O s b W->s.evs.length=b.es.length:=λh=>by rw[<-h.evt.1,ee]
 have Z:V.es.length=o.es.length:=(B e.1).symm.trans (B d.1);refine⟨x,z,o.es.length,rfl,?_⟩;refine((e.1.later v).events (by omega)).mono ?_;rintro b aI ⟨y,A,rfl,S⟩;obtain⟨F,_,Y,aY,aB,aC⟩:=S;rw[Z];refine⟨y,A,rfl,?_⟩;refine(D6 W.heap.size aH.heap.size x y z A o.es.length X Y aI (f3.kee (aK F λ_=>False) λ_ _ _ aL=>aL) aC ⟨by omega,by omega⟩ (by omega) (by rw[bA (by rw[ee];omega),f2,aB])).mono ?_;rintro b a1 ⟨rfl,ai⟩;have C:=v.trans (F.mono v.size);have p:=C.trans (ai.mono C.size);refine⟨rfl,(d.1.later p).aliveL.mono ?_⟩;rintro b a2 ⟨aD,j,rfl,aw,ax,ay,aj⟩;have q:=p.trans (aj.mono p.size);refine⟨aD,rfl,(e.1.later q).aliveL.mono ?_⟩;rintro b a3 ⟨aE,J,rfl,aX,az,aA,G⟩;have D:=q.trans (G.mono q.size);have ad:J=j:=az.trans ax.symm;subst ad;have aV:J.length<=12:=by
  rw[aw.length_eq,ee];exact d.1.keys.2.2.2.2.2
 refine⟨aE,rfl,(uV (ay.row.later G) aA.row (by omega)).mono ?_⟩;rintro b a4 ⟨rfl,ak⟩;have r:=D.trans (ak.mono D.size);refine⟨rfl,((d.1.later r).ways (by omega)).mono ?_⟩;rintro b a5 ⟨aF,rfl,T⟩;obtain⟨⟨K,an,ao,ap,aq⟩,al⟩:=T;have t:=r.trans (al.mono r.size);refine⟨aF,rfl,((e.1.later t).ways (by omega)).mono ?_⟩;rintro b a6 ⟨aG,rfl,U⟩;obtain⟨⟨L,ar,au,av,_⟩,I⟩:=U;have E:=t.trans (I.mono t.size);have ae:K=L:=rN (N:=0) (M:=0) (f:=λ_=> []) (g:=λ_=> []) K L an ar λk=>(ao k).trans (au k).symm;subst ae;refine⟨aG,rfl,(Gh (ap.later I) av aq).mono ?_⟩;rintro b a7 ⟨rfl,am⟩;have u:=E.trans (am.mono E.size);refine⟨rfl,(d.1.later u).aliveL.mono ?_⟩;rintro b a0 ⟨aZ,j,rfl,P,a8,aJ,ah⟩;have ag:=u.trans (ah.mono u.size);obtain⟨a,c,rfl,af⟩:=aJ.row;refine⟨a,j.length,c,rfl,?_,R,H,aa.later ag,j,rfl,λk ab=>(P.mem_iff).1 ab,a,c,rfl,af⟩;rw[P.length_eq,ee];exact d.1.keys.2.2.2.2.2
theorem MZ{n:Nat}{l:List (Bh (n+1))}{room:Int}{w0 W:World}{i pa w:Nat}{s:Sy}{a:Option Addr}{m c j:Nat}(aT:i<=110)(aU:j<m)(y:O2 n l room w0 i pa w s a m c W):∃g o p,(a=some ⟨g,o,none⟩/\W.cell? ⟨g,o+j,none⟩=some (ab p))/\Hid (Pq pa w p (λW=>O2 n l room w0 i pa w s a m c W) W):=by
 obtain⟨U,R,J,D,Z,G,V,X,t,H⟩:=y;obtain⟨k,v⟩:∃k,D[j]?=some k:=⟨_,aI (by omega)⟩;have am:qO (ae a m c) D W:=⟨V,X,t,H⟩;simp only[Value.slice.injEq]at t;obtain⟨rfl,aP,rfl⟩:=t;rcases H with d|⟨g,o,rfl,_,ah⟩
 ·rw[d]at v;simp at v
 refine⟨g,o,k,⟨rfl,ah j k v⟩,?_⟩;have ak:∀x,aj W x->O2 n l room w0 i pa w s (some ⟨g,o,none⟩) m c x:=λx u=>⟨U,R,J.later u,D,Z,G,am.later u⟩;obtain⟨p,aV,Y,aO,⟨rfl,rfl⟩,h,I,_⟩:=J;obtain⟨aG,aH,aL,aM⟩:=h.2.2.2.1;obtain⟨t,aQ,aR,aS⟩:=I.2.2.2.1;obtain⟨E,q⟩:∃E,s.get k=some E:=by
  obtain⟨aw,al,e⟩:=b9.1 (G k (aJ v));have:(s.get k).isSome=true:=by
   unfold Sy.get;rw[Option.isSome_map,List.find?_isSome];exact⟨aw,al,by simpa using e⟩
  exact fu.1 this
 obtain⟨av,aN,F⟩:=E;have K:=h.2.2.1.get q;have ai:F.length<=20:=by
  obtain⟨b,u⟩:∃b,cU Y.l k=some b:=by
   have:=h.1.alive k;rw[q]at this;exact fu.1 this
  obtain⟨_,_,_,e,_,d⟩:=h.1.ps k b u;rw[q]at e;simp only[jm,eh]at e;rw[e.2.2];exact d
 unfold Pq;refine(h.1.procS q (az K (by decide)) (by omega)).mono ?_;rintro e aW ⟨y0,y1,y2,ya,yl,yc,ap,aq,rfl,S⟩;obtain⟨⟨af,aa⟩,r⟩:=S;refine⟨av,y0,y1,y2,ya,yl,yc,ap,F.length,aq,0,rfl,r,λaE z=>?_⟩;have an:=r.trans (z.mono r.size);refine((I.1.later an).procS q (az K (by decide)) (by omega)).mono ?_;rintro e aX ⟨ax,ay,aA,aB,aD,aC,ar,au,rfl,T⟩;obtain⟨⟨ag,ad⟩,O⟩:=T;refine⟨ax,ay,aA,aB,aD,aC,ar,au,rfl,O,λaF B=>?_⟩;have N:=z.trans (O.mono z.size);have A:=N.trans (B.mono N.size);have f:∀{P Q:World},aj P Q->bt (λ_=>False) P Q:=λy=>aK y _;refine(GS (af.kee (f A) λ_ _ _ d=>d) (ag.kee (f B) λ_ _ _ d=>d)).mono ?_;rintro e aY ⟨rfl,C⟩;refine⟨rfl,(Br ((aa.kee (f A) λ_ _ _ d=>d).kee (f C) λ_ _ _ d=>d) ((ad.kee (f B) λ_ _ _ d=>d).kee (f C) λ_ _ _ d=>d) ai).mono ?_⟩;rintro e aZ ⟨rfl,ao⟩;have L:=r.trans (A.mono r.size);have M:=L.trans (C.mono L.size);exact⟨rfl,ak _ (M.trans (ao.mono M.size))⟩
def Pv(n:Nat)(l:List (Bh (n+1)))(room:Int){m:Nat}(xs:List (Hn m))(s:Sy)(j:Nat):Sy:=(xs.take j).foldl (λs c=>(s.do n l room c.1.1 c.1.2.1 c.1.2.2 (m+1) c.2).1) s
theorem KM(n:Nat)(l:List (Bh (n+1)))(room:Int){m:Nat}{xs:List (Hn m)}(s:Sy){j:Nat}{c:Hn m}(a:xs[j]?=some c):Pv n l room xs s (j+1)=((Pv n l room xs s j).do n l room c.1.1 c.1.2.1 c.1.2.2 (m+1) c.2).1:=by
 unfold Pv;rw[du,a,Option.toList_some,jj];rfl
def PQ{m:Nat}(c:Hn m):Obj:=.cells #[ab c.1.1,ab c.1.2.1,ab c.1.2.2,ab c.2.1.1,ab c.2.1.2.1,af c.2.1.2.2,ae c.2.2.1.1 c.2.2.2.length c.2.2.1.2] 33
theorem Cr(n:Nat)(l:List (Bh (n+1)))(E:Option Addr)(I:Nat)(room:Int)(J:Nat)(u:List (Sk J))(sa:Option Addr)(sc:Nat)(D:Nat)(xs:List (Hn D))(xa:Option Addr)(xc:Nat)(S:Option Addr)(O ac:Nat)(V:Option Addr)(U Z:Nat)(w:World)(aM:gh (n+1) w.heap.size w E l)(aN:l.length<=I)(aP:I<=maxLen)(aE:kA (n+1) l=true->(ay (n+6) (bW n l)).length<=2097152)(aQ:p8 w.heap.size w 5 (Pe J) (IS J w.heap.size w) sa u)(aR:∀c∈u,(ay (J+1) c.2).length<=2097152)(ad:p8 w.heap.size w 7 (Ps D) (FI D w.heap.size w) xa xs)(af:∀c∈xs,(ay (D+1) c.2).length<=2097152)(av:u.length<=1048576)(aw:xs.length<=1048576)(ax:O<=9223372036854775807)(aB:∀k,k<O->∃g o a,S=some ⟨g,o,none⟩/\w.cell? ⟨g,o+k,none⟩=some (ab a))(aD:∀k,k<U->∃g o a,V=some ⟨g,o,none⟩/\w.cell? ⟨g,o+k,none⟩=some (ab a)):ak 3 #[ae E l.length I,ab room,ae sa u.length sc,ae xa xs.length xc,ae S O ac,ae V U Z] w λe w'=>e=.returned (.bool true)/\aj w w':=by
 obtain⟨i,G⟩:=JI xs ((0,0,0),((0,0,⟨#[]⟩),(none,0),[]));have z:∀{f:World}{g o:Nat}{y:Value},aj w f->g<w.heap.size->w.cell? ⟨g,o,none⟩=some y->f.cell? ⟨g,o,none⟩=some y:=λ{f g o y} s x h=>(s.cell (p:=⟨g,o,none⟩) x).trans h;have aa:∀{a:Option Addr}{F:Nat},(∀k,k<F->∃g o y,a=some ⟨g,o,none⟩/\w.cell? ⟨g,o+k,none⟩=some (ab y))->∀f k,aj w f->k<F->∃g o y,a=some ⟨g,o,none⟩/\f.cell? ⟨g,o+k,none⟩=some (ab y):=λh f k s aL=>by
  obtain⟨g,o,y,e,v⟩:=h k aL;exact⟨g,o,y,e,z s (fx w ⟨g,o+k,none⟩ v) v⟩
 have aO:∀f,aj w f->gh (n+1) f.heap.size f E l:=λf t=>by
  have ag:=cG (dV (n+1)) 2 (pH (n+1)) E;exact ag.2.2.2.1 _ _ _ _ t.size (aM.below t)
 have T:=λf (t:aj w f)=>Cn n l E I room J u sa sc w f (aO f t) aN aP aE aQ aR av t;obtain⟨r,X⟩:∃r:Nat->Sy,r=Pv n l room xs (yG n l room u):=⟨_,rfl⟩;have Y:∀d,d<xs.length->r (d+1)=((r d).do n l room (i d).1.1 (i d).1.2.1 (i d).1.2.2 (D+1) (i d).2).1:=λd q=>by
  rw[X];exact KM n l room _ (G d q)
 have W:∀d,d<xs.length->FI D w.heap.size w (i d):=λd q=>by
  obtain⟨_,_,_,_,_,h⟩:=Dy ad (G d q);exact h
 refine Iq E l.length I room sa u.length sc xa xs.length xc S O ac V U Z (λd=>(i d).1.1) (λd=>(i d).1.2.1) (λd=>(i d).1.2.2) (λd=>(i d).2.1.1) (λd=>(i d).2.1.2.1) (λd=>(i d).2.1.2.2) (λd=>(i d).2.2.1.1) (λd=>(i d).2.2.2.length) (λd=>(i d).2.2.1.2) (λd=>((r d).do n l room (i d).1.1 (i d).1.2.1 (i d).1.2.2 (D+1) (i d).2).2) w
  (λf=>(lw n l room≠0\/4<u.length)/\aj w f) (λpa f=>¬(lw n l room≠0\/4<u.length)/\aj w f/\∃p P,p.b=pa/\p9 n l room w.heap.size 4 p (yG n l room u) P f)
  (λpa m d f=>iL n l room w (λ_=>False) (λ_=>PQ (i 0)) (4+d) (4+d) pa m (r d) (r d) f) (λK L pa m d A f=>iL n l room w (λR=>R=A) (λ_=>PQ (i d)) (4+d+K.toNat) (4+d+L.toNat) pa m (r (d+K.toNat)) (r (d+L.toNat)) f) (λpa m a F c d f=>O2 n l room w (4+xs.length) pa m (r xs.length) a F c f) aw ax (KD w) (λf t=>?_) (λf Q=>?_) (λpa f aF=>?_) (λpa m d f h=>h.below) (λpa m d f q H h=>?_) (λK L pa m d A f h=>⟨h.below,?_⟩) (λK L pa m d A f aZ h s=>h.later s) (aa aB) (aa aD) (λpa m d A f a q H h=>?_) (λL pa m d A f q H h=>?_) (λK pa m d A f q H h=>?_) (λpa m d A f h=>?_) (λpa m f H h=>?_) (λpa m a F c d f h=>?_) (λpa m a F c d f H q h=>?_)
 ·refine(T f t).mono ?_;rintro e w' (⟨rfl,j⟩|⟨pa,rfl,j⟩)
  ·exact ah ⟨rfl,j.out.1,t.trans (j.out.2.mono t.size)⟩
  ·obtain⟨M,N,p,P,al,C⟩:=j.out;exact ai ⟨pa,rfl,M,t.trans (N.mono t.size),p,P,al,C.1,C.2.1,C.2.2.1,C.2.2.2.1,az t.size C.2.2.2.2⟩
 ·refine(T f Q.2).mono ?_;rintro e w' (⟨rfl,j⟩|⟨pa,rfl,j⟩)
  ·exact⟨rfl,Q.2.trans (j.out.2.mono Q.2.size)⟩
  ·exact absurd Q.1 j.out.1
 ·obtain⟨M,N,p,P,rfl,C⟩:=aF;refine(T f N).mono ?_;rintro e w' (⟨rfl,j⟩|⟨m,rfl,j⟩)
  ·exact absurd j.out.1 M
  ·obtain⟨_,am,R,a1,rfl,an⟩:=j.out;have aC:lP n l=0:=by
    have:lw n l room=0:=by
     by_cases B:lw n l room=0
     ·exact B
     ·exact absurd (ah B) M
    unfold lw at this;split at this
    ·contradiction
    ·rename_i B;exact Decidable.not_not.1 B
   have au:r 0=yG n l room u:=by rw[X];rfl
   refine⟨R.b,rfl,?_⟩;rw[au];exact K6 _ aC C an N am
 ·obtain⟨g,o,aq,x,v,_⟩:=Dy ad (G d q);have s:=h.below;exact⟨g,o,⟨aq,z s x (v 0 _ rfl),z s x (v 1 _ rfl),z s x (v 2 _ rfl),z s x (v 3 _ rfl),z s x (v 4 _ rfl),z s x (v 5 _ rfl),z s x (v 6 _ rfl)⟩,λa0 aH aI=>h.box aH aI⟩
 ·obtain⟨_,_,_,_,_,_,_,_,_,aA⟩:=h;exact(aA A rfl).1
 ·refine(h.swap.tidyA (by simp;omega) a).mono ?_;rintro e w' ⟨rfl,j⟩;exact⟨rfl,j.out.swap⟩
 ·refine(h.doA (by simp;omega) (i d) (W d q) (af _ (aJ (G d q)))).mono ?_;rintro e w' ⟨rfl,j⟩;refine⟨rfl,?_⟩;have:=j.out;simp only[Bool.toNat_false,gC]at this;rw[<-Y d q]at this;exact this
 ·refine(h.swap.doA (by simp;omega) (i d) (W d q) (af _ (aJ (G d q)))).mono ?_;rintro e w' ⟨rfl,j⟩;refine⟨rfl,?_⟩;have:=j.out;simp only[Bool.toNat_false,gC]at this;rw[<-Y d q]at this;exact this.swap
 ·have:=h.less (R':=λ_=>False) (λ_ B=>B.elim) (ja:=4+(d+1)) (jb:=4+(d+1)) (by simp;omega);obtain⟨aW,aX,ao,ap,e,aS,aT,aU,aV,a2⟩:=this;exact⟨aW,aX,ao,ap,e,aS,aT,aU,aV,λR B=>B.elim⟩
 ·have aK:4+xs.length<=110:=by omega
  have ar:iL n l room w (λ_=>False) (λ_=>PQ (i 0)) (4+xs.length) (4+xs.length) pa m (r xs.length) (r xs.length) f:=h;exact OA aK ar
 ·obtain⟨aY,j,aG,_⟩:=h;exact aG.below
 ·exact MZ (by omega) q h
theorem uj:(N n:Nat)->n<=N->(x:Tm n)->wt N (aT N n x)=wt n x
 | 0,0,_,_=>rfl
 | N+1,0,_,_=>by simp[aT,wt]
 | N+1,n+1,h,x=>by
  simp only[aT,wt,gz];congr 2;refine jl λy _=>?_;exact uj N n (by omega) y
theorem Lm:(n:Nat)->(x:Tm n)->1<=wt n x
 | 0,_=>by simp[wt]
 | n+1,x=>by simp only[wt];omega
theorem rR{a:Type}(f g:a->Nat)(c:Nat):(l:List a)->(∀y∈l,f y<=g y+c)->(l.map f).sum<=(l.map g).sum+l.length*c
 | [],_=>by simp
 | y::l,h=>by
  have e:=h y (by simp);have i:=rR f g c l λd b=>h d (by simp[b]);simp only[aN,bI,bi,Nat.add_mul,Nat.one_mul];omega
theorem nK(s:ByteArray)(N:Nat):wt (N+1) (bf s N)=1+s.size:=by simp[wt,bf]
theorem oD(N:Nat)(l:List (Tm N)):wt (N+1) (df N l)=1+(l.map (wt N)).sum:=by simp[wt,df]
theorem Ng(k u:Int)(N:Nat):wt (N+1) (bO k u N)=1:=by simp[wt,bO]
theorem Ln(n:Nat)(a:Ac (n+1)):wt (n+2) (cg n a)<=Ny (n+1) a+8:=by
 have f:=Lm (n+1) a.2.1.1;have g:=Lm (n+1) a.2.1.2;have b:mL.size=4:=rfl;have c:je.size=5:=rfl;have d:mK.size=4:=rfl;have e:lR.size=4:=rfl;unfold cg Ny;split
 ·rw[oD];simp only[aN,b8,bI,gT,nK];omega
 ·split
  ·rw[oD];simp only[aN,b8,bI,gT,nK,Ng];omega
  ·split
   ·rw[oD];simp only[aN,b8,bI,gT,nK];omega
   ·rw[oD];simp only[aN,b8,bI,gT,nK];omega
theorem Lp(n:Nat)(c:Cl (n+1))(b:tE (n+1) c=true):wt (n+4) (dE n c)<=Nz (n+1) c+68:=by
 have h:Lw.size=2:=rfl;have i:c.2.2.length<=8:=by
  simp only[tE,aG,cd]at b;omega
 have d:=rR (λa=>wt (n+2) (cg n a)) (Ny (n+1)) 8 c.2.2 λa _=>Ln n a;have e:=uj (n+3) (n+1) (by omega) c.1.1;have f:=uj (n+3) (n+1) (by omega) c.1.2.1;have g:=uj (n+3) (n+1) (by omega) c.1.2.2;unfold dE Nz;rw[oD];simp only[aN,b8,bI,gT,nK,oD,gz,e,f,g];have j:(c.2.2.map (wt (n+2) ∘ cg n)).sum<=(c.2.2.map (Ny (n+1))).sum+c.2.2.length*8:=d;omega
theorem Lo(n:Nat)(b:Bh (n+1))(c:wC (n+1) b=true):wt (n+5) (dM n b)<=Lx (n+1) b+413:=by
 have e:tT.size=3:=rfl;simp only[wC,aG,cd,ci]at c;have g:(b.2.2.map (wt (n+4) ∘ dE n)).sum<=(b.2.2.map (Nz (n+1))).sum+b.2.2.length*68:=rR (λa=>wt (n+4) (dE n a)) (Nz (n+1)) 68 b.2.2 λa d=>Lp n a (c.2 a d);have f:b.2.2.length<=6:=by omega
 unfold dM Lx;rw[oD];simp only[aN,bI,nK,gz];omega
theorem Lq(n:Nat)(p:List (Bh (n+1)))(b:kA (n+1) p=true):wt (n+6) (bW n p)<=(p.map (Lx (n+1))).sum+2897:=by
 have d:nP.size=4:=rfl;simp only[kA,aG,cd,ci]at b;have f:(p.map (wt (n+5) ∘ dM n)).sum<=(p.map (Lx (n+1))).sum+p.length*413:=rR (λa=>wt (n+5) (dM n a)) (Lx (n+1)) 413 p λa c=>Lo n a (b.2 a c);have e:p.length<=7:=by omega
 unfold bW;rw[oD];simp only[aN,bI,nK,gz];omega
theorem BB(n:Nat)(p:List (Bh (n+1)))(a:kA (n+1) p=true)(d:(p.map (Lx (n+1))).sum<=1048576):(ay (n+6) (bW n p)).length<=2097152:=by
 have b:=rD (n+6) (bW n p);have c:=Lq n p a;omega
theorem xE{H:Type}{enc:TypeId×Value->H}{W:World}{r:Reach}{z:Nat}{v:Value}{d:DataW H}{p:List MemPlace}(I:Value.okWide Tryz.prog W r z 25 v)(A:DataW.Trod enc Tryz.prog W 0 (λ_=>true) true 25 v d p):∃a len cap,v=ae a len cap/\len<=cap/\cap<=maxLen/\(len=0\/∃b o,a=some ⟨b,o,none⟩/\b<W.heap.size/\∀i,i<len->∃u,W.cell? ⟨b,o+i,none⟩=some (ab u)):=by
 obtain⟨a,len,cap,rfl⟩:=okWide_slice underlying25 I;obtain⟨f,E⟩:=A;have F:DataW.trod enc Tryz.prog W 0 (λ_=>true) true f 25 [ae a len cap]=some (d,p):=E;rcases DataW.trod_slice underlying25 F with⟨c,g⟩|⟨a,len,cap,K,P,O,rfl,c,g,_,M,C,L,q,_,_⟩
 ·simp at c g;obtain⟨rfl,rfl,rfl⟩:=c;exact⟨none,0,0,rfl,am _,aH _,ah rfl⟩
 ·simp at c g;obtain⟨rfl,rfl,rfl⟩:=c;simp only[qZ]at q;refine⟨some a,len,cap,rfl,by omega,C,?_⟩;rcases Nat.eq_zero_or_pos len with h|h
  ·exact ah h
  ·have key:∀i,i<len->∃u,W.cell? (a.add i)=some (ab u):=by
     intro i j;have s:=q i j;rw[aI (by omega)]at s;obtain⟨J,D,G⟩:=bu.1 s;obtain⟨_,N,B⟩:=nb D;obtain⟨u,rfl,_,_⟩:=jF underlying3 G;have k:=B 0 (by omega);simp at k;exact⟨u,k⟩
   obtain⟨y,x⟩:=key 0 h;have m:=sL (w:=W) (a:=a) (v:=ab y) (by have l:=x;unfold Addr.add at l ⊢;simpa using l);have n:∀e,a.add e=⟨a.block,a.off+e,none⟩:=λe=>by
    have:=dZ a.block a.off e;rw[<-m]at this;exact this
   refine ai ⟨a.block,a.off,by rw[<-m],fx W ⟨a.block,a.off,none⟩ (u:=ab y) (by have:=x;rw[n]at this;simpa using this),λi j=>?_⟩;obtain⟨u,t⟩:=key i j;rw[n]at t;exact⟨u,t⟩
end Go.Proofs.YtmmahddlcldmiaaGreat
