/- Proved here: plain facts and contracts. No condition but what each names. -/
import Derived.Test.YtmmahddlcldmiaaGreatJ35
import Derived.Shelf.SortM.Plain
import Derived.Shelf.SortM.SortNone
import Derived.Test.YtmmahddlcldmiaaGreatJ34
namespace Go.Proofs.YtmmahddlcldmiaaGreat
open Go.RowKit Go.Maps Go.Sort Go.Shelf Tryz
open Go.RowKit
open Go.ChangeShapes Go.WideShapes Go.ChangeAt Go.RowKit
set_option maxRecDepth 100000
set_option maxHeartbeats 1000000
variable{l o room y0 y1:Int}{h a b B g i j m n pa r yc yl:Nat}{s:Sy}{t:Tc}{c d k W w0:ag}{p y2:ap}{f ya:aw}
theorem Mt{k:Type}{f:k->Value}{w:World}{l:List (Int×k)}(n:wH f w h l)(r:∀p∈l,(Lit.int .i64 p.1).wf=true)(z:l.length<=maxLen):∃D:DataW Value,w.ownsMap Tryz.prog 3 mK h l.length D/\(intKeys D).Perm (l.map (·.1))/\Maps.size D=l.length:=by
 obtain⟨es,m,o,e,q⟩:=n;have j:∀a∈es.toList,∃b,a.key=.int .i64 b/\WideElems.rd Tryz.prog 3 mK a=some (.int .i64 b,.held a.val):=λa d=>by
  have u:(a.key,a.val)∈l.map λp=>(Value.int .i64 p.1,f p.2):=e▸cm.2 ⟨a,d,rfl⟩;obtain⟨p,s,c⟩:=cm.1 u;have g:a.key=.int .i64 p.1:=(congrArg Prod.fst c).symm;refine⟨p.1,g,?_⟩;unfold WideElems.rd;rw[g,keyOf_int_mk underlying3 (r p s)];rfl
 have t:es.size=l.length:=by
  have:=congrArg List.length e;simpa using this
 refine⟨_,⟨es,m,o,⟨by omega,q,λa d=>?_⟩,by omega,rfl⟩,?_,?_⟩
 ·obtain⟨b,_,c⟩:=j a d;exact⟨_,c⟩
 ·have c:es.toList.map (λa=>Go.intOf (WideElems.rg Tryz.prog 3 mK a).1)=l.map (·.1):=by
    have i:=congrArg (List.map λy:Value×Value=>match y.1 with| .int _ b=>b|_=>0) e;rw[gE,gE]at i;refine(jq λa d=>?_).trans (i.trans (jq λp _=>rfl));obtain⟨b,v,x⟩:=j a d;rw[WideElems.rg_of x];simp only[Function.comp,v,Go.intOf]
  rw[<-c];have:=(WideShapes.sorted_perm (es.toList.map (WideElems.rg Tryz.prog 3 mK))).map λp=>Go.intOf p.1;rw[gE]at this;exact this
 ·rw[<-t];simpa [Maps.size]using (WideShapes.sorted_perm (es.toList.map (WideElems.rg Tryz.prog 3 (mK)))).length_eq
theorem OB(m:Nat):AnyZI.SortsIn Tryz.prog Tryz.sortedA_ren Fence.wide m:=
 ⟨λb off cap g a c d e=>kX.2 (AnyM.slices_Sort_int Tryz.sortA b off cap g a c d e),λf cap a=>kX.2 (AnyM.slices_Sort_int_none Tryz.sortA f cap a)⟩
theorem uz(g:Nat)(f:Option Nat)(w:World)(S:List Int->Prop)(N:Nat)(m:w.cell? ⟨g,3,none⟩=some (.map f))(o:N<=1000)(l:SeqGives Fence.wide 2 Tryz.prog 59 #[.pointer (some ⟨w.heap.size,0,none⟩)] encZ S N (w.alloc (.cells #[.map f] 67))):Calls Tryz.prog 12 #[.pointer (some ⟨g,0,none⟩)] w λe w'=>∃v c,e=.returned v/\S c/\iL w.heap.size v (c.mergeSort leI) w'/\Below w.heap.size w w':=by
 refine(kX (n:=6)).1 ?_;have h:∀b a,CallsIn Fence.wide 5 Tryz.prog 31 #[.map b] a λe w'=>e=.returned (.func (.func 59) #[] #[.pointer (some ⟨a.heap.size,0,none⟩)])/\w'=a.alloc (.cells #[.map b] 67):=λb a=>AnyZI.keys_in Tryz.keysA Fence.wide 5 trivial rfl b a;have d:=AnyZI.sorted_in Tryz.sortedA Fence.wide 5 trivial trivial trivial trivial rfl (by omega) (OB _) (enters_of func58 (by kernel_rfl) rfl) 59 #[.pointer (some ⟨w.heap.size,0,none⟩)] trivial (enters_of func59 (by kernel_rfl) rfl) _ _ (by unfold maxLen;omega) (by omega) _ l;change CallsIn _ _ Tryz.prog 30 _ _ _ at d;have p:Fence.wide.fn 31:=trivial;have q:Fence.wide.fn 30:=trivial;refine callsIn_of_wp func12 rfl trivial ?_ rfl;simp only[ntmps12,dT,br,iC,Nat.reduceAdd,Nat.reduceSub,pn,pq,pC,pu,jO,eL]
 gi_wp2_with (first
  | (gi_at_call 31;refine(h _ _).mono ?_;rintro e w' ⟨rfl,rfl⟩)
  | (gi_at_call 30;refine d.mono ?_;rintro e w' ⟨v,c,rfl,i,k,r,j⟩))
 go_ret
 refine⟨v,c,rfl,i,?_,((aq _ w).alloc (ao _) _).trans (j.mono (by simp))⟩;have:=ownsRow_base_a k (by simp:w.heap.size<=_);unfold iL;rw[List.length_mergeSort];exact this
section
variable {p:ke} {s:Sy} {d:fY} {w:World}
theorem bt.aliveL(i:bt p s d w):Calls Tryz.prog 12 #[.pointer (some ⟨p.b,0,none⟩)] w λe w'=>∃v q,e=.returned v/\q.Perm (s.ps.map (·.1))/\q=(s.ps.map (·.1)).mergeSort leI/\iL w.heap.size v q w'/\Below w.heap.size w w':=by
 obtain⟨c,C,u,D,E,F⟩:=i.keys;have G:d.l.length=s.ps.length:=by
  have:=congrArg List.length c;simpa using this
 have g:=i.cells.2.2.2;have o:Below w.heap.size w (w.alloc (.cells #[.map d.po] 67)):=(aq _ w).alloc (ao _) _;rcases i.pm with⟨n,h⟩|⟨k,n,_,_,h⟩
 ·rw[n]at g o;refine(uz p.b none w (λa=>a=[]) 0 g (by omega) (AnyZI.keys_gives_nil (ρ:=Tryz.keysA_ren) {Tryz.keysA with} Fence.wide _ trivial rfl w.heap.size _ (by simp) (by simp))).mono ?_;rintro e w' ⟨v,a,rfl,rfl,f,j⟩;exact⟨v,[],rfl,by rw[<-c,h];exact List.Perm.refl _,by rw[<-c,h];simp,by simpa using f,j⟩
 ·rw[n]at g o;have j:=i.low k (by omega)
  obtain⟨m,z,A,H⟩:=Mt (h.kept (o.block k (by omega))) (λt y=>by
   have:t.1∈s.ps.map (·.1):=c▸cm.2 ⟨t,y,rfl⟩;obtain⟨B,f,e⟩:=cm.1 this;have:=u B f;simp[Lit.wf,IntKind.min,IntKind.max,IntKind.signed,IntKind.bits]
   omega) (by unfold maxLen;omega)
  refine(uz p.b (some k) w (λa=>a.Perm (intKeys m)) (Maps.size m) g (by omega) (AnyZI.keys_gives (ρ:=Tryz.keysA_ren) {Tryz.keysA with} Fence.wide _ trivial rfl (by omega) w.heap.size k _ m _ (by simp) (by simp) z)).mono ?_;rintro e w' ⟨v,a,rfl,x,f,j⟩;have r:=x.trans (A.trans (List.Perm.of_eq c));exact⟨v,_,rfl,(List.mergeSort_perm a leI).trans r,mergeSort_of_perm_i r,f,j⟩
end
theorem wi{s:ap}(k:oK s 13 t)(n:bE 13 t=0)(W:ag):am 22 #[ab 1,af s] W λe w'=>∃y0 y1 y2 ya yl yc,e=.returned (.agg #[ab 3,ab 1,ab 0,ab y0,ab y1,af y2,ae ya yl yc])/\Hid (nt t W.heap.size y0 y1 y2 ya yl yc w'/\ak W w'):=by
 refine Ir 1 s W (λy0 y1 y2 ya yl yc d=>nt t W.heap.size y0 y1 y2 ya yl yc d) λj w x=>(BS k n j).mono ?_;rintro e w' ⟨b,a,rfl,i⟩;obtain⟨l,f,m,g⟩:=i;have y:=g.size;refine⟨_,_,_,_,_,_,rfl,g,λd o=>?_⟩;have p:nt t (W.heap.size+1) a.1.1 a.1.2.1 a.1.2.2 a.2.1.1 a.2.2.length a.2.1.2 w':=⟨b,a,⟨rfl,rfl,rfl⟩,l,f,(In.offB m f).mono λh c=>⟨by omega,c.2⟩⟩;obtain⟨b,a,q,r,u,v⟩:=p.kee o λh z A B=>by omega
 exact⟨b,a,q,r,u,v.mono λh c=>⟨by omega,c.2⟩⟩
theorem CQ.grow{V V':aR}(l:CQ w0 V c s i h W)(e:ak W d)(r:∀q,V' q->V q\/(W.heap.size<=q/\q<d.heap.size)):CQ w0 V' d s i h d:=by
 obtain⟨t,f,k,g,m,n,b,o,p⟩:=l;have u:=p.size;have v:=e.size;refine⟨t,f,k,g.later e,m,n,⟨b.1.trans (e.mono b.1.size),b.2⟩,λq a=>?_,bB.refl _ _⟩;rcases r q a with a|a
 ·have:=o q a;exact⟨by omega,this.2⟩
 ·refine⟨a.2,?_⟩;by_cases j:f.ow q=0
  ·exact j
  ·have:=(g.low q j).2;omega
theorem EA(w0:ag)(l:ut w0 M1 0 h W):am 20 #[aH h,af qO,.agg #[ab 1,ab 2,af ⟨#[]⟩,ae none 0 0]] W λe w'=>e=.returned (.tuple #[ab 1,ab 0])/\Hid (ut w0 Gd 1 h w'):=by
 obtain⟨p,u,rfl,a,⟨b,c⟩,v,m,d⟩:=l;have o:In W.heap.size W 1 (L9 2 0):=Bq 1 2 0 (by unfold dC;omega) (by unfold dC;omega) _ _;refine(a.start qO (by decide) (L9 2 0) o (by decide) (by omega) (by omega)).mono ?_;rintro e w' ⟨s,q,rfl,j⟩;obtain⟨⟨f,n⟩,k,g,i⟩:=j;rw[b,vY c]at f g;have r:q=0:=f.trans Ge.1;subst r;have t:s=1:=n rfl;subst t;exact⟨rfl,p,k,rfl,g,⟨b,c⟩,by obtain⟨_,_,w,x,y,z⟩:=i;omega,m.trans (rZ a i d),d⟩
theorem MS(b:W.heap[g]?=some (.cells #[ab 1,ab 2] 3)):qT (ae (some ⟨g,0,none⟩) 2 2) [1,2] W:=by
 refine⟨_,_,rfl,aj ⟨g,0,rfl,(aJ.1 b).1,λi k a=>?_⟩⟩
 match i,a with
 | 0,a=>
  obtain rfl:1=k:=by simpa using a
  exact ah b 0
 | 1,a=>
  obtain rfl:2=k:=by simpa using a
  exact ah b 1
 | i+2,a=>simp at a
def tN:Tm 1:=((0,0,⟨#[]⟩),(none,0),[])
theorem Ki(B:Nat)(w:ag):In B w 1 tN:=⟨⟨by simp[tN,dC],by simp[tN,dC],aL _,by simp[tN],by simp[tN]⟩,ai rfl⟩
theorem jy{a b:Int}(c:0<=a/\a<=9/\0<=b/\b<=9):I2 (a,b):=by
 unfold I2 dC;simp only;omega
def P6(m a:Nat):Nat->Nat
 | 0=>m
 | 1=>0
 | 2=>a
 | _+3=>0
def xF{m a:Nat}(x:Tm (m+1))(x':Tm (a+1)):(j:Nat)->Tm (P6 m a j+1)
 | 0=>x
 | 1=>tN
 | 2=>x'
 | _+3=>tN
theorem nt.parts(e:nt t B y0 y1 y2 ya yl yc W)(h:bE 13 t=0):∃(m:Nat)(l:List (Tm m)),l.length=yl/\aB (m+1) ((y0,y1,y2),(ya,yc),l) 13 t=true/\In W.heap.size W (m+1) ((y0,y1,y2),(ya,yc),l)/\cr (λq=>B<=q/\q<W.heap.size) (m+1) ((y0,y1,y2),(ya,yc),l)/\(aC (m+1) ((y0,y1,y2),(ya,yc),l)).length<=2097152:=by
 obtain⟨m,i,⟨a,b,d⟩,c,f,g⟩:=e;obtain⟨⟨k,n,o⟩,⟨p,r⟩,j⟩:=i;simp only[ew]at a b;obtain⟨rfl,rfl,rfl⟩:=a;obtain⟨rfl,rfl⟩:=b;exact⟨m,j,d,c,f,g,fo ((bV c).trans h)⟩
theorem Ew(w0:ag){B2:Nat}{n:ag}{z:Nat}(D:ut w0 Gd 1 h c)(F:ak c d/\c.heap.size=r/\IP r d)(an:r<a/\r<B2)(M:nt vz a y0 y1 y2 ya yl yc d)(x:ak d k)(N:nt (bq tE 12) B2 l o p f b z k)(t:ak k n)(J:k.heap.size<=g/\n.heap[g]?=some (.cells #[ab 3,ab 1,ab 0,ab y0,ab y1,af y2,ae ya yl yc,ab 1,ab 1,ab 0,ab 0,ab 0,af ⟨#[]⟩,ae none 0 0,ab 3,ab 1,ab 0,ab l,ab o,af p,ae f b z,ab 1,ab 1,ab 0,ab 0,ab 0,af ⟨#[]⟩,ae none 0 0,ab 2,ab 1,ab 2,ab 0,ab 0,af ⟨#[]⟩,ae none 0 0,ab 1,ab 2,ab 0,ab 0,ab 0,af ⟨#[]⟩,ae none 0 0] 33)):am 21 #[aH h,ae (some ⟨g,0,none⟩) 6 6] n λe w'=>e=.returned (.bool true)/\Hid (CQ w0 (λq=>q=r) w' (ze Gd Lz) 7 h w'/\IP r w'):=by
 obtain⟨w,ad,A⟩:=F;obtain⟨O,Z,rfl,Q,R,S,T⟩:=M.parts qK.2.1;obtain⟨P,aa,rfl,U,W,X,Y⟩:=N.parts qK.2.2.1;obtain⟨al,i⟩:=J;have ao:=(aJ.1 i).1;have L:=(aJ.1 A).1;have ar:=w.size;have au:=x.size;have av:=t.size;have s:=x.trans (t.mono x.size);have E:=w.trans (s.mono w.size);have K:=(s.block r L).trans A;have I:=D.from E (V:=λq=>q=r\/q=g\/(a<=q/\q<d.heap.size)\/(B2<=q/\q<k.heap.size)) λq m=>by rcases m with m|m|m|m<;>omega
 have u:∀{V:aR},In n.heap.size n 1 tN/\cr V 1 tN:=λ{V}=>⟨Ki _ _,ai rfl⟩;have v:(aC 1 tN).length<=2097152:=by decide
 refine(Cx I Lz Js (by decide) g 6 (aj (ai rfl)) (P6 O P) (xF ((y0,y1,y2),(ya,yc),Z) ((l,o,p),(f,z),aa)) (λy e j=>?_) (λy e j=>?_)).mono ?_
 ·match y,j with
  | 0,j=>
   obtain rfl:(3,1,0,vz)=e:=aA j;exact⟨⟨(R.below s).mono s.size,S.mono λq m=>aj (aj (ai m))⟩,T,ai Q,jy (by decide)⟩
  | 1,j=>
   obtain rfl:(1,1,0,tF)=e:=aA j;exact⟨u,v,aj (by decide),jy (by decide)⟩
  | 2,j=>
   obtain rfl:(3,1,0,bq tE 12)=e:=aA j;exact⟨⟨(W.below t).mono t.size,X.mono λq m=>aj (aj (aj m))⟩,Y,ai U,jy (by decide)⟩
  | 3,j=>
   obtain rfl:(1,1,0,tF)=e:=aA j;exact⟨u,v,aj (by decide),jy (by decide)⟩
  | 4,j=>
   obtain rfl:(2,1,2,tF)=e:=aA j;exact⟨u,v,aj (by decide),jy (by decide)⟩
  | 5,j=>
   obtain rfl:(1,2,0,tF)=e:=aA j;exact⟨u,v,aj (by decide),jy (by decide)⟩
  | _+6,j=>cases j
 ·match y,j with
  | 0,j=>
   obtain rfl:(3,1,0,vz)=e:=aA j;exact⟨ah i 0,ah i 1,ah i 2,ah i 3,ah i 4,ah i 5,ah i 6⟩
  | 1,j=>
   obtain rfl:(1,1,0,tF)=e:=aA j;exact⟨ah i 7,ah i 8,ah i 9,ah i 10,ah i 11,ah i 12,ah i 13⟩
  | 2,j=>
   obtain rfl:(3,1,0,bq tE 12)=e:=aA j;exact⟨ah i 14,ah i 15,ah i 16,ah i 17,ah i 18,ah i 19,ah i 20⟩
  | 3,j=>
   obtain rfl:(1,1,0,tF)=e:=aA j;exact⟨ah i 21,ah i 22,ah i 23,ah i 24,ah i 25,ah i 26,ah i 27⟩
  | 4,j=>
   obtain rfl:(2,1,2,tF)=e:=aA j;exact⟨ah i 28,ah i 29,ah i 30,ah i 31,ah i 32,ah i 33,ah i 34⟩
  | 5,j=>
   obtain rfl:(1,2,0,tF)=e:=aA j;exact⟨ah i 35,ah i 36,ah i 37,ah i 38,ah i 39,ah i 40,ah i 41⟩
  | _+6,j=>cases j
 ·rintro e w' ⟨rfl,C⟩;have B:=C.out;refine⟨rfl,B.grow (aq _ _) λq m=>ai (ai m),?_⟩;obtain⟨_,_,_,_,_,_,_,G,H⟩:=B;exact(H.block r (G r (ai rfl)).1 λm=>m (ai rfl)).trans K
def yC(w0:ag)(a r:Nat)(W:ag):Prop:=CQ w0 (λq=>q=r) W (ze Gd Lz) 7 a W
theorem Iw(w0:ag){q:Nat}(w:yC w0 h r c)(y:ak c d/\c.heap.size<=q/\d.cell? ⟨q,1,none⟩=some (ab 7))(N:c.heap.size<=B)(E:nt (bq CF 12) B y0 y1 y2 ya yl yc d)(u:IP r d)(j:ak d k)(A:d.heap.size<=g/\k.heap[g]?=some (.cells #[ab 3,ab 1,ab 0,ab y0,ab y1,af y2,ae ya yl yc,ab 1,ab 1,ab 0,ab 0,ab 0,af ⟨#[]⟩,ae none 0 0] 33)):am 21 #[aH h,ae (some ⟨g,0,none⟩) 2 2] k λe w'=>e=.returned (.bool true)/\Hid (ut w0 (ze (ze Gd Lz) Pc) 9 h w'/\IP r w'/\w'.cell? ⟨q,1,none⟩=some (ab 7)):=by
 obtain⟨l,L,n⟩:=y;obtain⟨F,K,rfl,G,H,I,J⟩:=E.parts qK.2.2.2;obtain⟨M,a⟩:=A;have O:=(aJ.1 a).1;have C:q<d.heap.size:=fD d ⟨q,1,none⟩ n;have D:=(aJ.1 u).1;have P:=l.size;have Q:=j.size;have x:=l.trans (j.mono l.size);have z:=w.grow x (V':=λb=>b=r\/b=q\/b=g\/(B<=b/\b<d.heap.size)) λb i=>by
  rcases i with i|i|i|i
  ·exact ai i
  all_goals exact aj (by omega)
 refine(Cx z Pc Mb (by decide) g 2 (aj (aj (ai rfl))) (P6 F 0) (xF ((y0,y1,y2),(ya,yc),K) tN) (λm e f=>?_) (λm e f=>?_)).mono ?_
 ·match m,f with
  | 0,f=>
   obtain rfl:(3,1,0,bq CF 12)=e:=aA f;exact⟨⟨(H.below j).mono j.size,I.mono λb i=>aj (aj (aj i))⟩,J,ai G,jy (by decide)⟩
  | 1,f=>
   obtain rfl:(1,1,0,tF)=e:=aA f;exact⟨⟨Ki _ _,ai rfl⟩,show (aC 1 tN).length<=2097152 by decide,aj (by decide),jy (by decide)⟩
  | _+2,f=>cases f
 ·match m,f with
  | 0,f=>
   obtain rfl:(3,1,0,bq CF 12)=e:=aA f;exact⟨ah a 0,ah a 1,ah a 2,ah a 3,ah a 4,ah a 5,ah a 6⟩
  | 1,f=>
   obtain rfl:(1,1,0,tF)=e:=aA f;exact⟨ah a 7,ah a 8,ah a 9,ah a 10,ah a 11,ah a 12,ah a 13⟩
  | _+2,f=>cases f
 ·rintro e w' ⟨rfl,v⟩;have t:=v.out;refine⟨rfl,t.at,?_⟩;obtain⟨_,_,_,_,_,_,_,o,s⟩:=t;refine⟨(s.block r (o r (ai rfl)).1 λi=>i (ai rfl)).trans ((j.block r D).trans u),?_⟩;rw[s.cell 1 (o q (aj (ai rfl))).1 λi=>i (aj (ai rfl))];exact(j.cell (p:=⟨q,1,none⟩) C).trans n
theorem Ip(w0:ag)(f:yC w0 h r W):am 15 #[aH h,ab 2] W λe w'=>∃nm m sa sl sc ma l b,e=.returned (.tuple #[af nm,.agg #[ab 1,ab 7,af m,ae sa sl sc],ae ma l b,ab 0])/\ak W w':=by
 obtain⟨t,p,rfl,g,_,q,_⟩:=f.at;obtain⟨⟨nm,o,n⟩,k,a⟩:=cw.1 Jt;simp only[ew]at a;obtain⟨rfl,a⟩:=a;refine(g.procS k (by decide) (by omega)).mono ?_;rintro e w' ⟨y0,y1,y2,ya,yl,yc,ma,b,rfl,c⟩;obtain⟨⟨⟨s,u,⟨d,_,_⟩,j,_⟩,_⟩,i⟩:=c;have:=(bL j).1;rw[d,a]at this;simp only[ew]at this;obtain⟨rfl,rfl,rfl⟩:=this;exact⟨_,_,ya,yl,yc,ma,_,b,rfl,i⟩
theorem KI(w:ag):am 5 #[] w λe w'=>e=.returned (.bool true)/\ak w w':=by
 refine Hu w (yD w) (λd a=>ut w M1 0 d a) (λd a=>ut w Gd 1 d a) (yC w) (λd a=>ut w (ze (ze Gd Lz) Pc) 9 d a) (λf c a=>qT (ae f 2 c) [1,2] a) (nt vz) (nt (bq tE 12)) (nt (bq CF 12)) (Il w) (λf l c a b=>K6 w b) (λd a b=>EA w b) (λa=>wi Po qK.2.1 a) (λa=>wi Na qK.2.2.1 a) (λa=>wi OI qK.2.2.2 a) (λd r s H I y z A J y0 y1 y2 ya yl yc L M N O Q P b g m p k D C i=>Ew w b g m p k D C i) (λd r a b=>Ip w b) (λd r a x b n=>?_) (λf c s a x b n i=>vb (b.later n) (MS i) (by decide)) (λd r K s G y z A y0 y1 y2 ya yl yc b g m p j k i=>Iw w b g m p j k i) λd a b=>?_
 ·obtain⟨E,B,rfl,g,_⟩:=b.at;refine((g.later n).aliveL).mono ?_;rintro e w' ⟨F,q,rfl,_,h,j,o⟩;rw[Oa]at h;have h:q=[1,2]:=by
   rw[h];exact List.mergeSort_of_pairwise (by simp[leI])
  subst h;obtain⟨f,c,rfl,v⟩:=j.row;exact⟨f,c,rfl,⟨f,c,rfl,v⟩,o⟩
 ·obtain⟨E,B,rfl,g,_,_,t,_⟩:=b;refine g.aliveL.mono ?_;rintro e w' ⟨F,q,rfl,u,_,j,o⟩;rw[Ma]at u;have h:q=[]:=List.Perm.eq_nil u;subst h;obtain⟨f,c,rfl,v⟩:=j.row;exact⟨f,c,rfl,t.trans (o.mono t.size)⟩
theorem By{c:List Tc}{ma:aw}(o:sZ c B ma W)(p:sZ c h f W)(u:c.length<=20):am 17 #[ae ma c.length a,ae f c.length b] W λe w'=>e=.returned (.bool true)/\ak W w':=by
 obtain⟨ya,s,q,m,j,_⟩:=o;obtain⟨i,t,r,n,l,_⟩:=p;have k:=pW 13 13 (vR 13) ya i ma f a b W.heap.size W q r (by omega) (by omega) (ao _);rw[tw ya i (λg d=>(j g d).1) (λg d=>(l g d).1) (m.trans n.symm),s,t]at k;exact k
theorem GY(s:nt t B y0 y1 y2 ya yl yc W)(u:nt t h l o p f a b W):am 16 #[.agg #[ab y0,ab y1,af y2,ae ya yl yc],.agg #[ab l,ab o,af p,ae f a b]] W λe w'=>e=.returned (.bool true)/\ak W w':=by
 obtain⟨x,j,⟨c,d,q⟩,y,v,_⟩:=s;obtain⟨n,m,⟨g,i,r⟩,z,w,_⟩:=u;have k:=vR (x+1) j (n+1) m W.heap.size W v w (ao _);rw[bM _ _ _ _ _ _ y (dB _ _ _ _ z)]at k;obtain⟨⟨A,C,D⟩,⟨E,ac⟩,F⟩:=j;obtain⟨⟨G,H,I⟩,⟨J,K⟩,L⟩:=m;simp only[ew]at c d g i;obtain⟨rfl,rfl,rfl⟩:=c;obtain⟨rfl,rfl⟩:=d;obtain⟨rfl,rfl,rfl⟩:=g;obtain⟨rfl,rfl⟩:=i;subst q;subst r;exact k
def O7(n:Nat)(l:List (Bh (n+1)))(room:Int)(w0:ag)(i pa d:Nat)(s:Sy)(a:aw)(m c:Nat)(W:ag):Prop:=∃R H,iQ n l room w0 R H i i pa d s s W/\∃b:List Int,b.length=m/\(∀k∈b,k∈s.ps.map (·.1))/\qT (ae a m c) b W
theorem OF{l:List (Bh (n+1))}{R:aR}{H:Nat->Obj}(aZ:i<=110)(j:iQ n l room w0 R H i i pa h s s W):Pu pa h (λa m c W=>O7 n l room w0 i pa h s a m c W) W:=by
 have ad:=j;obtain⟨a1,O,p,V,⟨rfl,rfl⟩,d,e,_⟩:=j;obtain⟨aP,aQ,aS,aT⟩:=d.2.2.2.1;obtain⟨aU,aV,aW,aX⟩:=e.2.2.2.1;unfold Pu;refine(d.1.events (by omega)).mono ?_;rintro b aK ⟨x,z,rfl,Q⟩;obtain⟨w,_,Z,aY,X,Y⟩:=Q;have B:∀{b:fY}{O:ke}{W:ag},bt O s b W->s.evs.length=b.es.length:=λj=>by rw[<-j.evt.1,eu]
 have ab:V.es.length=p.es.length:=(B e.1).symm.trans (B d.1);refine⟨x,z,p.es.length,rfl,?_⟩;refine((e.1.later w).events (by omega)).mono ?_;rintro b aL ⟨y,A,rfl,S⟩;obtain⟨F,_,aa,a3,aE,aF⟩:=S;rw[ab];refine⟨y,A,rfl,?_⟩;refine(Eb W.heap.size aK.heap.size x y z A p.es.length Z aa aL (Y.kee (aO F λ_=>False) λ_ _ _ aN=>aN) aF ⟨by omega,by omega⟩ (by omega) (by rw[bF (by rw[eu];omega),X,aE])).mono ?_;rintro b a6 ⟨rfl,al⟩;have C:=w.trans (F.mono w.size);have q:=C.trans (al.mono C.size);refine⟨rfl,(d.1.later q).aliveL.mono ?_⟩;rintro b a7 ⟨aG,o,rfl,az,aA,aB,am⟩;have r:=q.trans (am.mono q.size);refine⟨aG,rfl,(e.1.later r).aliveL.mono ?_⟩;rintro b a8 ⟨aH,J,rfl,a2,aC,aD,G⟩;have D:=r.trans (G.mono r.size);have af:J=o:=aC.trans aA.symm;subst af;have a0:J.length<=12:=by
  rw[az.length_eq,eu];exact d.1.keys.2.2.2.2.2
 refine⟨aH,rfl,(vb (aB.row.later G) aD.row (by omega)).mono ?_⟩;rintro b a9 ⟨rfl,an⟩;have t:=D.trans (an.mono D.size);refine⟨rfl,((d.1.later t).ways (by omega)).mono ?_⟩;rintro b ba ⟨aI,rfl,T⟩;obtain⟨⟨K,aq,ar,au,av⟩,ao⟩:=T;have u:=t.trans (ao.mono t.size);refine⟨aI,rfl,((e.1.later u).ways (by omega)).mono ?_⟩;rintro b bb ⟨aJ,rfl,U⟩;obtain⟨⟨L,aw,ax,ay,_⟩,I⟩:=U;have E:=u.trans (I.mono u.size);have ah:K=L:=rS (N:=0) (M:=0) (f:=λ_=> []) (g:=λ_=> []) K L aq aw λk=>(ar k).trans (ax k).symm;subst ah;refine⟨aJ,rfl,(Gm (au.later I) ay av).mono ?_⟩;rintro b bc ⟨rfl,ap⟩;have v:=E.trans (ap.mono E.size);refine⟨rfl,(d.1.later v).aliveL.mono ?_⟩;rintro b a5 ⟨a4,o,rfl,P,bd,aM,ak⟩;have aj:=v.trans (ak.mono v.size);obtain⟨a,c,rfl,ai⟩:=aM.row;refine⟨a,o.length,c,rfl,?_,R,H,ad.later aj,o,rfl,λk ae=>(P.mem_iff).1 ae,a,c,rfl,ai⟩;rw[P.length_eq,eu];exact d.1.keys.2.2.2.2.2
theorem M4{l:List (Bh (n+1))}{a:aw}{c:Nat}(aV:i<=110)(aW:j<m)(y:O7 n l room w0 i pa h s a m c W):∃g o p,(a=some ⟨g,o,none⟩/\W.cell? ⟨g,o+j,none⟩=some (ab p))/\Hid (Pv pa h p (λW=>O7 n l room w0 i pa h s a m c W) W):=by
 obtain⟨U,R,J,D,Z,G,V,X,u,H⟩:=y;obtain⟨k,w⟩:∃k,D[j]?=some k:=⟨_,aM (by omega)⟩;have an:qT (ae a m c) D W:=⟨V,X,u,H⟩;simp only[Value.slice.injEq]at u;obtain⟨rfl,aR,rfl⟩:=u;rcases H with d|⟨g,o,rfl,_,ai⟩
 ·rw[d]at w;simp at w
 refine⟨g,o,k,⟨rfl,ai j k w⟩,?_⟩;have al:∀x,ak W x->O7 n l room w0 i pa h s (some ⟨g,o,none⟩) m c x:=λx v=>⟨U,R,J.later v,D,Z,G,an.later v⟩;obtain⟨p,aX,Y,aQ,⟨rfl,rfl⟩,q,I,_⟩:=J;obtain⟨aI,aJ,aK,aL⟩:=q.2.2.2.1;obtain⟨u,aS,aT,aU⟩:=I.2.2.2.1;obtain⟨E,r⟩:∃E,s.get k=some E:=by
  obtain⟨ay,am,e⟩:=cm.1 (G k (aN w));have:(s.get k).isSome=true:=by
   unfold Sy.get;rw[Option.isSome_map,List.find?_isSome];exact⟨ay,am,by simpa using e⟩
  exact fA.1 this
 obtain⟨ax,aP,F⟩:=E;have K:=q.2.2.1.get r;have aj:F.length<=20:=by
  obtain⟨b,v⟩:∃b,cZ Y.l k=some b:=by
   have:=q.1.alive k;rw[r]at this;exact fA.1 this
  obtain⟨_,_,_,e,_,d⟩:=q.1.ps k b v;rw[r]at e;simp only[jr,ew]at e;rw[e.2.2];exact d
 unfold Pv;refine(q.1.procS r (aD K (by decide)) (by omega)).mono ?_;rintro e aY ⟨y0,y1,y2,ya,yl,yc,aq,ar,rfl,S⟩;obtain⟨⟨af,aa⟩,t⟩:=S;refine⟨ax,y0,y1,y2,ya,yl,yc,aq,F.length,ar,0,rfl,t,λaG z=>?_⟩;have ao:=t.trans (z.mono t.size);refine((I.1.later ao).procS r (aD K (by decide)) (by omega)).mono ?_;rintro e aZ ⟨az,aA,aB,aC,aF,aE,au,av,rfl,T⟩;obtain⟨⟨ah,ad⟩,O⟩:=T;refine⟨az,aA,aB,aC,aF,aE,au,av,rfl,O,λaH B=>?_⟩;have N:=z.trans (O.mono z.size);have A:=N.trans (B.mono N.size);have f:∀{P Q:ag},ak P Q->bB (λ_=>False) P Q:=λy=>aO y _;refine(GY (af.kee (f A) λ_ _ _ d=>d) (ah.kee (f B) λ_ _ _ d=>d)).mono ?_;rintro e a0 ⟨rfl,C⟩;refine⟨rfl,(By ((aa.kee (f A) λ_ _ _ d=>d).kee (f C) λ_ _ _ d=>d) ((ad.kee (f B) λ_ _ _ d=>d).kee (f C) λ_ _ _ d=>d) aj).mono ?_⟩;rintro e a1 ⟨rfl,ap⟩;have L:=t.trans (A.mono t.size);have M:=L.trans (C.mono L.size);exact⟨rfl,al _ (M.trans (ap.mono M.size))⟩
def PA(n:Nat)(l:List (Bh (n+1)))(room:Int){m:Nat}(xs:List (Hn m))(s:Sy)(j:Nat):Sy:=(xs.take j).foldl (λs c=>(s.do n l room c.1.1 c.1.2.1 c.1.2.2 (m+1) c.2).1) s
theorem KR(n:Nat)(l:List (Bh (n+1)))(room:Int){xs:List (Hn m)}(s:Sy){c:Hn m}(a:xs[j]?=some c):PA n l room xs s (j+1)=((PA n l room xs s j).do n l room c.1.1 c.1.2.1 c.1.2.2 (m+1) c.2).1:=by
 unfold PA;rw[dz,a,Option.toList_some,jo];rfl
def PV{m:Nat}(c:Hn m):Obj:=.cells #[ab c.1.1,ab c.1.2.1,ab c.1.2.2,ab c.2.1.1,ab c.2.1.2.1,af c.2.1.2.2,ae c.2.2.1.1 c.2.2.2.length c.2.2.1.2] 33
theorem Cw(n:Nat)(l:List (Bh (n+1)))(E:aw)(I:Nat)(room:Int)(J:Nat)(u:List (Sk J))(sa:aw)(sc:Nat)(D:Nat)(xs:List (Hn D))(xa:aw)(xc:Nat)(S:aw)(O ac:Nat)(V:aw)(U Z:Nat)(w:ag)(aP:gq (n+1) w.heap.size w E l)(aQ:l.length<=I)(aS:I<=maxLen)(aH:kF (n+1) l=true->(aC (n+6) (cd n l)).length<=2097152)(aT:qi w.heap.size w 5 (Pk J) (IX J w.heap.size w) sa u)(aU:∀c∈u,(aC (J+1) c.2).length<=2097152)(ad:qi w.heap.size w 7 (Px D) (FN D w.heap.size w) xa xs)(af:∀c∈xs,(aC (D+1) c.2).length<=2097152)(ay:u.length<=1048576)(az:xs.length<=1048576)(aA:O<=9223372036854775807)(aE:∀k,k<O->∃g o a,S=some ⟨g,o,none⟩/\w.cell? ⟨g,o+k,none⟩=some (ab a))(aG:∀k,k<U->∃g o a,V=some ⟨g,o,none⟩/\w.cell? ⟨g,o+k,none⟩=some (ab a)):am 3 #[ae E l.length I,ab room,ae sa u.length sc,ae xa xs.length xc,ae S O ac,ae V U Z] w λe w'=>e=.returned (.bool true)/\ak w w':=by
 obtain⟨i,G⟩:=JN xs ((0,0,0),((0,0,⟨#[]⟩),(none,0),[]));have z:∀{f:ag}{g o:Nat}{y:av},ak w f->g<w.heap.size->w.cell? ⟨g,o,none⟩=some y->f.cell? ⟨g,o,none⟩=some y:=λ{f g o y} s x h=>(s.cell (p:=⟨g,o,none⟩) x).trans h;have aa:∀{a:aw}{F:Nat},(∀k,k<F->∃g o y,a=some ⟨g,o,none⟩/\w.cell? ⟨g,o+k,none⟩=some (ab y))->∀f k,ak w f->k<F->∃g o y,a=some ⟨g,o,none⟩/\f.cell? ⟨g,o+k,none⟩=some (ab y):=λh f k s aO=>by
  obtain⟨g,o,y,e,v⟩:=h k aO;exact⟨g,o,y,e,z s (fD w ⟨g,o+k,none⟩ v) v⟩
 have aR:∀f,ak w f->gq (n+1) f.heap.size f E l:=λf t=>by
  have ah:=cN (ed (n+1)) 2 (pN (n+1)) E;exact ah.2.2.2.1 _ _ _ _ t.size (aP.below t)
 have T:=λf (t:ak w f)=>Cs n l E I room J u sa sc w f (aR f t) aQ aS aH aT aU ay t;obtain⟨r,X⟩:∃r:Nat->Sy,r=PA n l room xs (yM n l room u):=⟨_,rfl⟩;have Y:∀d,d<xs.length->r (d+1)=((r d).do n l room (i d).1.1 (i d).1.2.1 (i d).1.2.2 (D+1) (i d).2).1:=λd q=>by
  rw[X];exact KR n l room _ (G d q)
 have W:∀d,d<xs.length->FN D w.heap.size w (i d):=λd q=>by
  obtain⟨_,_,_,_,_,h⟩:=DD ad (G d q);exact h
 refine Ix E l.length I room sa u.length sc xa xs.length xc S O ac V U Z (λd=>(i d).1.1) (λd=>(i d).1.2.1) (λd=>(i d).1.2.2) (λd=>(i d).2.1.1) (λd=>(i d).2.1.2.1) (λd=>(i d).2.1.2.2) (λd=>(i d).2.2.1.1) (λd=>(i d).2.2.2.length) (λd=>(i d).2.2.1.2) (λd=>((r d).do n l room (i d).1.1 (i d).1.2.1 (i d).1.2.2 (D+1) (i d).2).2) w
  (λf=>(lE n l room≠0\/4<u.length)/\ak w f) (λpa f=>¬(lE n l room≠0\/4<u.length)/\ak w f/\∃p P,p.b=pa/\qj n l room w.heap.size 4 p (yM n l room u) P f)
  (λpa m d f=>iQ n l room w (λ_=>False) (λ_=>PV (i 0)) (4+d) (4+d) pa m (r d) (r d) f) (λK L pa m d A f=>iQ n l room w (λR=>R=A) (λ_=>PV (i d)) (4+d+K.toNat) (4+d+L.toNat) pa m (r (d+K.toNat)) (r (d+L.toNat)) f) (λpa m a F c d f=>O7 n l room w (4+xs.length) pa m (r xs.length) a F c f) az aA (KI w) (λf t=>?_) (λf Q=>?_) (λpa f aI=>?_) (λpa m d f h=>h.below) (λpa m d f q H h=>?_) (λK L pa m d A f h=>⟨h.below,?_⟩) (λK L pa m d A f a2 h s=>h.later s) (aa aE) (aa aG) (λpa m d A f a q H h=>?_) (λL pa m d A f q H h=>?_) (λK pa m d A f q H h=>?_) (λpa m d A f h=>?_) (λpa m f H h=>?_) (λpa m a F c d f h=>?_) (λpa m a F c d f H q h=>?_)
 ·refine(T f t).mono ?_;rintro e w' (⟨rfl,j⟩|⟨pa,rfl,j⟩)
  ·exact ai ⟨rfl,j.out.1,t.trans (j.out.2.mono t.size)⟩
  ·obtain⟨M,N,p,P,al,C⟩:=j.out;exact aj ⟨pa,rfl,M,t.trans (N.mono t.size),p,P,al,C.1,C.2.1,C.2.2.1,C.2.2.2.1,aD t.size C.2.2.2.2⟩
 ·refine(T f Q.2).mono ?_;rintro e w' (⟨rfl,j⟩|⟨pa,rfl,j⟩)
  ·exact⟨rfl,Q.2.trans (j.out.2.mono Q.2.size)⟩
  ·exact absurd Q.1 j.out.1
 ·obtain⟨M,N,p,P,rfl,C⟩:=aI;refine(T f N).mono ?_;rintro e w' (⟨rfl,j⟩|⟨m,rfl,j⟩)
  ·exact absurd j.out.1 M
  ·obtain⟨_,an,R,a4,rfl,ao⟩:=j.out;have aF:lU n l=0:=by
    have:lE n l room=0:=by
     by_cases B:lE n l room=0
     ·exact B
     ·exact absurd (ai B) M
    unfold lE at this;split at this
    ·contradiction
    ·rename_i B;exact Decidable.not_not.1 B
   have ax:r 0=yM n l room u:=by rw[X];rfl
   refine⟨R.b,rfl,?_⟩;rw[ax];exact Lb _ aF C ao N an
 ·obtain⟨g,o,ar,x,v,_⟩:=DD ad (G d q);have s:=h.below;exact⟨g,o,⟨ar,z s x (v 0 _ rfl),z s x (v 1 _ rfl),z s x (v 2 _ rfl),z s x (v 3 _ rfl),z s x (v 4 _ rfl),z s x (v 5 _ rfl),z s x (v 6 _ rfl)⟩,λa3 aK aL=>h.box aK aL⟩
 ·obtain⟨_,_,_,_,_,_,_,_,_,aB⟩:=h;exact(aB A rfl).1
 ·refine(h.swap.tidyA (by simp;omega) a).mono ?_;rintro e w' ⟨rfl,j⟩;exact⟨rfl,j.out.swap⟩
 ·refine(h.doA (by simp;omega) (i d) (W d q) (af _ (aN (G d q)))).mono ?_;rintro e w' ⟨rfl,j⟩;refine⟨rfl,?_⟩;have:=j.out;simp only[Bool.toNat_false,gH]at this;rw[<-Y d q]at this;exact this
 ·refine(h.swap.doA (by simp;omega) (i d) (W d q) (af _ (aN (G d q)))).mono ?_;rintro e w' ⟨rfl,j⟩;refine⟨rfl,?_⟩;have:=j.out;simp only[Bool.toNat_false,gH]at this;rw[<-Y d q]at this;exact this.swap
 ·have:=h.less (R':=λ_=>False) (λ_ B=>B.elim) (ja:=4+(d+1)) (jb:=4+(d+1)) (by simp;omega);obtain⟨aZ,a0,ap,aq,e,aV,aW,aX,aY,a5⟩:=this;exact⟨aZ,a0,ap,aq,e,aV,aW,aX,aY,λR B=>B.elim⟩
 ·have aM:4+xs.length<=110:=by omega
  have au:iQ n l room w (λ_=>False) (λ_=>PV (i 0)) (4+xs.length) (4+xs.length) pa m (r xs.length) (r xs.length) f:=h;exact OF aM au
 ·obtain⟨a1,j,aJ,_⟩:=h;exact aJ.below
 ·exact M4 (by omega) q h
theorem uq:(N n:Nat)->n<=N->(x:Tm n)->wt N (aY N n x)=wt n x
 | 0,0,_,_=>rfl
 | N+1,0,_,_=>by simp[aY,wt]
 | N+1,n+1,h,x=>by
  simp only[aY,wt,gE];congr 2;refine jq λy _=>?_;exact uq N n (by omega) y
theorem Lr:(n:Nat)->(x:Tm n)->1<=wt n x
 | 0,_=>by simp[wt]
 | n+1,x=>by simp only[wt];omega
theorem rW{a:Type}(f g:a->Nat)(c:Nat):(l:List a)->(∀y∈l,f y<=g y+c)->(l.map f).sum<=(l.map g).sum+l.length*c
 | [],_=>by simp
 | y::l,h=>by
  have e:=h y (by simp);have i:=rW f g c l λd b=>h d (by simp[b]);simp only[aU,bN,br,Nat.add_mul,Nat.one_mul];omega
theorem nP(s:ap)(N:Nat):wt (N+1) (bq s N)=1+s.size:=by simp[wt,bq]
theorem oI(N:Nat)(l:List (Tm N)):wt (N+1) (dl N l)=1+(l.map (wt N)).sum:=by simp[wt,dl]
theorem Nl(k u:Int)(N:Nat):wt (N+1) (bT k u N)=1:=by simp[wt,bT]
theorem Ls(n:Nat)(a:Ac (n+1)):wt (n+2) (cq n a)<=NE (n+1) a+8:=by
 have f:=Lr (n+1) a.2.1.1;have g:=Lr (n+1) a.2.1.2;have b:mR.size=4:=rfl;have c:jj.size=5:=rfl;have d:mQ.size=4:=rfl;have e:lW.size=4:=rfl;unfold cq NE;split
 ·rw[oI];simp only[aU,ci,bN,gY,nP];omega
 ·split
  ·rw[oI];simp only[aU,ci,bN,gY,nP,Nl];omega
  ·split
   ·rw[oI];simp only[aU,ci,bN,gY,nP];omega
   ·rw[oI];simp only[aU,ci,bN,gY,nP];omega
theorem Lu(n:Nat)(c:Cl (n+1))(b:tJ (n+1) c=true):wt (n+4) (dJ n c)<=NF (n+1) c+68:=by
 have h:LB.size=2:=rfl;have i:c.2.2.length<=8:=by
  simp only[tJ,aK,co]at b;omega
 have d:=rW (λa=>wt (n+2) (cq n a)) (NE (n+1)) 8 c.2.2 λa _=>Ls n a;have e:=uq (n+3) (n+1) (by omega) c.1.1;have f:=uq (n+3) (n+1) (by omega) c.1.2.1;have g:=uq (n+3) (n+1) (by omega) c.1.2.2;unfold dJ NF;rw[oI];simp only[aU,ci,bN,gY,nP,oI,gE,e,f,g];have j:(c.2.2.map (wt (n+2) ∘ cq n)).sum<=(c.2.2.map (NE (n+1))).sum+c.2.2.length*8:=d;omega
theorem Lt(n:Nat)(b:Bh (n+1))(c:wI (n+1) b=true):wt (n+5) (dR n b)<=LC (n+1) b+413:=by
 have e:tY.size=3:=rfl;simp only[wI,aK,co,cu]at c;have g:(b.2.2.map (wt (n+4) ∘ dJ n)).sum<=(b.2.2.map (NF (n+1))).sum+b.2.2.length*68:=rW (λa=>wt (n+4) (dJ n a)) (NF (n+1)) 68 b.2.2 λa d=>Lu n a (c.2 a d);have f:b.2.2.length<=6:=by omega
 unfold dR LC;rw[oI];simp only[aU,bN,nP,gE];omega
theorem Lv(n:Nat)(p:List (Bh (n+1)))(b:kF (n+1) p=true):wt (n+6) (cd n p)<=(p.map (LC (n+1))).sum+2897:=by
 have d:nU.size=4:=rfl;simp only[kF,aK,co,cu]at b;have f:(p.map (wt (n+5) ∘ dR n)).sum<=(p.map (LC (n+1))).sum+p.length*413:=rW (λa=>wt (n+5) (dR n a)) (LC (n+1)) 413 p λa c=>Lt n a (b.2 a c);have e:p.length<=7:=by omega
 unfold cd;rw[oI];simp only[aU,bN,nP,gE];omega
theorem BG(n:Nat)(p:List (Bh (n+1)))(a:kF (n+1) p=true)(d:(p.map (LC (n+1))).sum<=1048576):(aC (n+6) (cd n p)).length<=2097152:=by
 have b:=rI (n+6) (cd n p);have c:=Lv n p a;omega
theorem xK{H:Type}{enc:TypeId×av->H}{r:Reach}{v:av}{d:DataW H}{p:List MemPlace}(I:Value.okWide Tryz.prog W r h 25 v)(A:DataW.Trod enc Tryz.prog W 0 (λ_=>true) true 25 v d p):∃a len cap,v=ae a len cap/\len<=cap/\cap<=maxLen/\(len=0\/∃b o,a=some ⟨b,o,none⟩/\b<W.heap.size/\∀i,i<len->∃u,W.cell? ⟨b,o+i,none⟩=some (ab u)):=by
 obtain⟨a,len,cap,rfl⟩:=okWide_slice underlying25 I;obtain⟨f,E⟩:=A;have F:DataW.trod enc Tryz.prog W 0 (λ_=>true) true f 25 [ae a len cap]=some (d,p):=E;rcases DataW.trod_slice underlying25 F with⟨c,g⟩|⟨a,len,cap,K,P,O,rfl,c,g,_,M,C,L,s,_,_⟩
 ·simp at c g;obtain⟨rfl,rfl,rfl⟩:=c;exact⟨none,0,0,rfl,ao _,aL _,ai rfl⟩
 ·simp at c g;obtain⟨rfl,rfl,rfl⟩:=c;simp only[rk]at s;refine⟨some a,len,cap,rfl,by omega,C,?_⟩;rcases Nat.eq_zero_or_pos len with j|j
  ·exact ai j
  ·have key:∀i,i<len->∃u,W.cell? (a.add i)=some (ab u):=by
     intro i k;have t:=s i k;rw[aM (by omega)]at t;obtain⟨J,D,G⟩:=bC.1 t;obtain⟨_,N,B⟩:=nj D;obtain⟨u,rfl,_,_⟩:=jK underlying3 G;have l:=B 0 (by omega);simp at l;exact⟨u,l⟩
   obtain⟨z,y⟩:=key 0 j;have n:=sQ (w:=W) (a:=a) (v:=ab z) (by have m:=y;unfold Addr.add at m ⊢;simpa using m);have q:∀e,a.add e=⟨a.block,a.off+e,none⟩:=λe=>by
    have:=en a.block a.off e;rw[<-n]at this;exact this
   refine aj ⟨a.block,a.off,by rw[<-n],fD W ⟨a.block,a.off,none⟩ (u:=ab z) (by have:=y;rw[q]at this;simpa using this),λi k=>?_⟩;obtain⟨u,x⟩:=key i k;rw[q]at x;exact⟨u,x⟩
end Go.Proofs.YtmmahddlcldmiaaGreat
