/- What is proved here: plain facts and contracts that the claimed theorem stands on. No condition but those that each names. -/
import Derived.Test.YtckamaoibonjcaaGreatG44
import Derived.Shelf.SortM.Plain
import Derived.Shelf.SortM.SortNone
import Derived.Test.YtckamaoibonjcaaGreatG43
namespace Go.Proofs.YtckamaoibonjcaaGreat
open Go.RowKit Go.Maps Go.Sort Go.Shelf
open Go.RowKit
set_option maxRecDepth 100000
set_option maxHeartbeats 1000000
theorem KZ{k:Type}{f:k->Value}{w:World}{j:Nat}{l:List (Int×k)}(n:vt f w j l)(r:∀p∈l,(Lit.int .i64 p.1).wf=true)(z:l.length<=maxLen):∃D:DataW Value,w.ownsMap Tryz.prog 3 qR j l.length D/\(intKeys D).Perm (l.map (·.1))/\Maps.size D=l.length:=by
 obtain⟨es,m,o,e,q⟩:=n;have i:∀a∈es.toList,∃b,a.key=ab b/\WideElems.rd Tryz.prog 3 qR a=some (ab b,.held a.val):=λa d=>by
  have u:(a.key,a.val)∈l.map λp=>(Value.int .i64 p.1,f p.2):=e▸ci.2 ⟨a,d,rfl⟩;obtain⟨p,s,c⟩:=ci.1 u;have g:a.key=ab p.1:=(congrArg Prod.fst c).symm;refine⟨p.1,g,?_⟩;unfold WideElems.rd;rw[g,keyOf_int_mk Tryz.underlying3 (r p s)];rfl
 have t:es.size=l.length:=by
  have:=congrArg List.length e;simpa using this
 refine⟨_,⟨es,m,o,⟨by omega,q,λa d=>?_⟩,by omega,rfl⟩,?_,?_⟩
 ·obtain⟨b,_,c⟩:=i a d;exact⟨_,c⟩
 ·have c:es.toList.map (λa=>Go.intOf (WideElems.rg Tryz.prog 3 qR a).1)=l.map (·.1):=by
    have h:=congrArg (List.map λy:Value×Value=>match y.1 with| .int _ b=>b|_=>0) e;rw[fK,fK]at h;refine(jm λa d=>?_).trans (h.trans (jm λp _=>rfl));obtain⟨b,v,x⟩:=i a d;rw[WideElems.rg_of x];simp only[Function.comp,v,Go.intOf]
  rw[<-c];have:=(WideShapes.sorted_perm (es.toList.map (WideElems.rg Tryz.prog 3 qR))).map λp=>Go.intOf p.1;rw[fK]at this;exact this
 ·rw[<-t];simpa [Maps.size]using (WideShapes.sorted_perm (es.toList.map (WideElems.rg Tryz.prog 3 (qR)))).length_eq
theorem M6(m:Nat):AnyZI.SortsIn Tryz.prog Tryz.sortedA_ren Fence.wide m:=
 ⟨λb off cap g a c d e=>callsIn_wide.2 (AnyM.slices_Sort_int Tryz.sortA b off cap g a c d e),λf cap a=>callsIn_wide.2 (AnyM.slices_Sort_int_none Tryz.sortA f cap a)⟩
theorem tH(g:Nat)(f:Option Nat)(w:World)(S:List Int->Prop)(N:Nat)(m:w.cell? ⟨g,3,none⟩=some (.map f))(o:N<=1000)(l:SeqGives Fence.wide 2 Tryz.prog 57 #[aF w.heap.size] encZ S N (w.alloc (.cells #[.map f] 62))):am 12 #[aF g] w λe w'=>∃v c,e=.returned v/\S c/\il w.heap.size v (c.mergeSort leI) w'/\aj w w':=by
 refine(callsIn_wide (n:=6)).1 ?_;have h:∀b a,CallsIn Fence.wide 5 Tryz.prog 32 #[.map b] a λe w'=>e=.returned (.func (.func 57) #[] #[aF a.heap.size])/\w'=a.alloc (.cells #[.map b] 62):=λb a=>AnyZI.keys_in Tryz.keysA Fence.wide 5 trivial rfl b a;have d:=AnyZI.sorted_in Tryz.sortedA Fence.wide 5 trivial trivial trivial trivial rfl (by omega) (M6 _) (enters_of Tryz.func56 (by kernel_rfl) rfl) 57 #[aF w.heap.size] trivial (enters_of Tryz.func57 (by kernel_rfl) rfl) _ _ (by unfold maxLen;omega) (by omega) _ l;change CallsIn _ _ Tryz.prog 31 _ _ _ at d;have p:Fence.wide.fn 32:=trivial;have q:Fence.wide.fn 31:=trivial;refine callsIn_of_wp Tryz.func12 rfl trivial ?_ rfl;simp only[Tryz.ntmps12,eW,aZ,iP,Nat.reduceAdd,Nat.reduceSub,Array.replicate_succ,Array.replicate_zero,List.push_toArray,List.append_toArray,mu,fG]
 gi_wp2_with (first
  | (gi_at_call 32;refine(h _ _).mono ?_;rintro e w' ⟨rfl,rfl⟩)
  | (gi_at_call 31;refine d.mono ?_;rintro e w' ⟨v,c,rfl,i,k,r,j⟩))
 go_ret
 refine⟨v,c,rfl,i,?_,((ap _ w).alloc (ak _) _).trans (j.mono (by simp))⟩;have:=ownsRow_base_a k (by simp:w.heap.size<=_);unfold il;rw[List.length_mergeSort];exact this
section
variable {p:lB} {s:Sy} {d:gu} {w:World}
theorem bi.aliveL(i:bi p s d w):am 12 #[aF p.b] w λe w'=>∃v q,e=.returned v/\q.Perm (s.ps.map (·.1))/\q=(s.ps.map (·.1)).mergeSort leI/\il w.heap.size v q w'/\aj w w':=by
 obtain⟨c,C,u,D,E,F⟩:=i.keys;have G:d.l.length=s.ps.length:=by
  have:=congrArg List.length c;simpa using this
 have g:=i.cells.2.2.2;have o:aj w (w.alloc (.cells #[.map d.po] 62)):=(ap _ w).alloc (ak _) _;rcases i.pm with⟨n,h⟩|⟨k,n,_,_,h⟩
 ·rw[n]at g o;refine(tH p.b none w (λa=>a=[]) 0 g (by omega) (AnyZI.keys_gives_nil (ρ:=Tryz.keysA_ren) {Tryz.keysA with} Fence.wide _ trivial rfl w.heap.size _ (by simp) (by simp))).mono ?_;rintro e w' ⟨v,a,rfl,rfl,f,j⟩;exact⟨v,[],rfl,by rw[<-c,h];exact List.Perm.refl _,by rw[<-c,h];simp,by simpa using f,j⟩
 ·rw[n]at g o;have j:=i.low k (by omega)
  obtain⟨m,z,A,H⟩:=KZ (h.kept (o.block k (by omega))) (λt y=>by
   have:t.1∈s.ps.map (·.1):=c▸ci.2 ⟨t,y,rfl⟩;obtain⟨B,f,e⟩:=ci.1 this;have:=u B f;simp[Lit.wf,IntKind.min,IntKind.max,IntKind.signed,IntKind.bits]
   omega) (by unfold maxLen;omega)
  refine(tH p.b (some k) w (λa=>a.Perm (intKeys m)) (Maps.size m) g (by omega) (AnyZI.keys_gives (ρ:=Tryz.keysA_ren) {Tryz.keysA with} Fence.wide _ trivial rfl (by omega) w.heap.size k _ m _ (by simp) (by simp) z)).mono ?_;rintro e w' ⟨v,a,rfl,x,f,j⟩;have r:=x.trans (A.trans (List.Perm.of_eq c));exact⟨v,_,rfl,(List.mergeSort_perm a leI).trans r,mergeSort_of_perm_i r,f,j⟩
end
theorem vg{s:ByteArray}{t:Tc}(k:nU s 13 t)(n:bu 13 t=0)(W:World):am 21 #[ab 1,af s] W λe w'=>∃y0 y1 y2 ya yl yc,e=.returned (.agg #[ab 3,ab 1,ab 0,ab y0,ab y1,af y2,ae ya yl yc])/\Hid (nv t W.heap.size y0 y1 y2 ya yl yc w'/\aj W w'):=by
 refine GH 1 s W (λy0 y1 y2 ya yl yc d=>nv t W.heap.size y0 y1 y2 ya yl yc d) λj w x=>(AX k n j).mono ?_;rintro e w' ⟨b,a,rfl,i⟩;obtain⟨l,f,m,g⟩:=i.out;have y:=g.size;refine⟨_,_,_,_,_,_,rfl,g,λd o=>?_⟩;have p:nv t (W.heap.size+1) a.1.1 a.1.2.1 a.1.2.2 a.2.1.1 a.2.2.length a.2.1.2 w':=⟨b,a,⟨rfl,rfl,rfl⟩,l,f,(In.offB m f).mono λh c=>⟨by omega,c.2⟩⟩;obtain⟨b,a,q,r,u,v⟩:=p.kee o λh z A B=>by omega
 exact⟨b,a,q,r,u,v.mono λh c=>⟨by omega,c.2⟩⟩
theorem BT.grow{w0:World}{V V':Nat->Prop}{j:World}{s:Sy}{i g:Nat}{W b:World}(l:BT w0 V j s i g W)(d:aj W b)(r:∀q,V' q->V q\/(W.heap.size<=q/\q<b.heap.size)):BT w0 V' b s i g b:=by
 obtain⟨t,e,k,f,m,n,c,o,p⟩:=l;have u:=p.size;have v:=d.size;refine⟨t,e,k,f.later d,m,n,⟨c.1.trans (d.mono c.1.size),c.2⟩,λq a=>?_,bq.refl _ _⟩;rcases r q a with a|a
 ·have:=o q a;exact⟨by omega,this.2⟩
 ·refine⟨a.2,?_⟩;by_cases h:e.ow q=0
  ·exact h
  ·have:=(f.low q h).2;omega
theorem DA(w0:World){a:Nat}{W:World}(l:tC w0 Kh 0 a W):am 19 #[aF a,af p9,.agg #[ab 1,ab 2,af ⟨#[]⟩,ae none 0 0]] W λe w'=>e=.returned (.tuple #[ab 1,ab 0])/\Hid (tC w0 E8 1 a w'):=by
 obtain⟨p,u,rfl,b,⟨c,d⟩,v,m,f⟩:=l;have o:In W.heap.size W 1 (KH 2 0):=AA 1 2 0 (by unfold dn;omega) (by unfold dn;omega) _ _;refine(b.start p9 (by decide) (KH 2 0) o (by decide) (by omega) (by omega)).mono ?_;rintro e w' ⟨s,q,rfl,j⟩;obtain⟨⟨g,n⟩,k,h,i⟩:=j.out;rw[c,Dn d]at g h;have r:q=0:=g.trans E9.1;subst r;have t:s=1:=n rfl;subst t;exact⟨rfl,p,k,rfl,h,⟨c,d⟩,by obtain⟨_,_,w,x,y,z⟩:=i;omega,m.trans (qZ b i f),f⟩
theorem Lr{g:Nat}{W:World}(b:W.heap[g]?=some (.cells #[ab 1,ab 2] 3)):sO (ae (some ⟨g,0,none⟩) 2 2) [1,2] W:=by
 refine⟨_,_,rfl,ai ⟨g,0,rfl,(aD.1 b).1,λi k a=>?_⟩⟩
 match i,a with
 | 0,a=>
  obtain rfl:1=k:=by simpa using a
  exact ag b 0
 | 1,a=>
  obtain rfl:2=k:=by simpa using a
  exact ag b 1
 | i+2,a=>simp at a
def sT:Tm 1:=((0,0,⟨#[]⟩),(none,0),[])
theorem IZ(B:Nat)(w:World):In B w 1 sT:=⟨⟨by simp[sT,dn],by simp[sT,dn],aE _,by simp[sT],by simp[sT]⟩,ah rfl⟩
theorem iX{a b:Int}(c:0<=a/\a<=9/\0<=b/\b<=9):I2 (a,b):=by
 unfold I2 dn;simp only;omega
def OA(m a:Nat):Nat->Nat
 | 0=>m
 | 1=>0
 | 2=>a
 | _+3=>0
def xF{m a:Nat}(x:Tm (m+1))(x':Tm (a+1)):(j:Nat)->Tm (OA m a j+1)
 | 0=>x
 | 1=>sT
 | 2=>x'
 | _+3=>sT
theorem nv.parts{t:Tc}{B:Nat}{y0 y1:Int}{y2:ByteArray}{ya:Option Addr}{yl yc:Nat}{W:World}(e:nv t B y0 y1 y2 ya yl yc W)(h:bu 13 t=0):∃(m:Nat)(l:List (Tm m)),l.length=yl/\ax (m+1) ((y0,y1,y2),(ya,yc),l) 13 t=true/\In W.heap.size W (m+1) ((y0,y1,y2),(ya,yc),l)/\bZ (λq=>B<=q/\q<W.heap.size) (m+1) ((y0,y1,y2),(ya,yc),l)/\(aw (m+1) ((y0,y1,y2),(ya,yc),l)).length<=2097152:=by
 obtain⟨m,i,⟨a,b,d⟩,c,f,g⟩:=e;obtain⟨⟨k,n,o⟩,⟨p,r⟩,j⟩:=i;simp only[fM]at a b;obtain⟨rfl,rfl,rfl⟩:=a;obtain⟨rfl,rfl⟩:=b;exact⟨m,j,d,c,f,g,eN ((bM c).trans h)⟩
theorem Dw(w0:World){t r g m B2:Nat}{n d f h:World}{y0 y1:Int}{y2:ByteArray}{ya:Option Addr}{yl yc:Nat}{u v:Int}{w:ByteArray}{x:Option Addr}{B y:Nat}(D:tC w0 E8 1 t n)(F:aj n d/\n.heap.size=r/\G2 r d)(al:r<m/\r<B2)(M:nv uE m y0 y1 y2 ya yl yc d)(p:aj d f)(N:nv (aY sL 12) B2 u v w x B y f)(j:aj f h)(J:f.heap.size<=g/\h.heap[g]?=some (.cells #[ab 3,ab 1,ab 0,ab y0,ab y1,af y2,ae ya yl yc,ab 1,ab 1,ab 0,ab 0,ab 0,af ⟨#[]⟩,ae none 0 0,ab 3,ab 1,ab 0,ab u,ab v,af w,ae x B y,ab 1,ab 1,ab 0,ab 0,ab 0,af ⟨#[]⟩,ae none 0 0,ab 2,ab 1,ab 2,ab 0,ab 0,af ⟨#[]⟩,ae none 0 0,ab 1,ab 2,ab 0,ab 0,ab 0,af ⟨#[]⟩,ae none 0 0] 32)):am 20 #[aF t,ae (some ⟨g,0,none⟩) 6 6] h λe w'=>e=.returned (.bool true)/\Hid (BT w0 (λq=>q=r) w' (xS E8 Kg) 7 t w'/\G2 r w'):=by
 obtain⟨o,ad,z⟩:=F;obtain⟨O,Z,rfl,Q,R,S,T⟩:=M.parts nQ.2.1;obtain⟨P,aa,rfl,U,W,X,Y⟩:=N.parts nQ.2.2.1;obtain⟨ak,a⟩:=J;have an:=(aD.1 a).1;have L:=(aD.1 z).1;have ao:=o.size;have aq:=p.size;have ar:=j.size;have i:=p.trans (j.mono p.size);have E:=o.trans (i.mono o.size);have K:=(i.block r L).trans z;have I:=D.from E (V:=λq=>q=r\/q=g\/(m<=q/\q<d.heap.size)\/(B2<=q/\q<f.heap.size)) λq c=>by rcases c with c|c|c|c<;>omega
 have k:∀{V:Nat->Prop},In h.heap.size h 1 sT/\bZ V 1 sT:=λ{V}=>⟨IZ _ _,ah rfl⟩;have l:(aw 1 sT).length<=2097152:=by decide
 refine(BA I Kg Ie (by decide) g 6 (ai (ah rfl)) (OA O P) (xF ((y0,y1,y2),(ya,yc),Z) ((u,v,w),(x,y),aa)) (λs e b=>?_) (λs e b=>?_)).mono ?_
 ·match s,b with
  | 0,b=>
   obtain rfl:(3,1,0,uE)=e:=au b;exact⟨⟨(R.below i).mono i.size,S.mono λq c=>ai (ai (ah c))⟩,T,ah Q,iX (by decide)⟩
  | 1,b=>
   obtain rfl:(1,1,0,vp)=e:=au b;exact⟨k,l,ai (by decide),iX (by decide)⟩
  | 2,b=>
   obtain rfl:(3,1,0,aY sL 12)=e:=au b;exact⟨⟨(W.below j).mono j.size,X.mono λq c=>ai (ai (ai c))⟩,Y,ah U,iX (by decide)⟩
  | 3,b=>
   obtain rfl:(1,1,0,vp)=e:=au b;exact⟨k,l,ai (by decide),iX (by decide)⟩
  | 4,b=>
   obtain rfl:(2,1,2,vp)=e:=au b;exact⟨k,l,ai (by decide),iX (by decide)⟩
  | 5,b=>
   obtain rfl:(1,2,0,vp)=e:=au b;exact⟨k,l,ai (by decide),iX (by decide)⟩
  | _+6,b=>cases b
 ·match s,b with
  | 0,b=>
   obtain rfl:(3,1,0,uE)=e:=au b;exact⟨ag a 0,ag a 1,ag a 2,ag a 3,ag a 4,ag a 5,ag a 6⟩
  | 1,b=>
   obtain rfl:(1,1,0,vp)=e:=au b;exact⟨ag a 7,ag a 8,ag a 9,ag a 10,ag a 11,ag a 12,ag a 13⟩
  | 2,b=>
   obtain rfl:(3,1,0,aY sL 12)=e:=au b;exact⟨ag a 14,ag a 15,ag a 16,ag a 17,ag a 18,ag a 19,ag a 20⟩
  | 3,b=>
   obtain rfl:(1,1,0,vp)=e:=au b;exact⟨ag a 21,ag a 22,ag a 23,ag a 24,ag a 25,ag a 26,ag a 27⟩
  | 4,b=>
   obtain rfl:(2,1,2,vp)=e:=au b;exact⟨ag a 28,ag a 29,ag a 30,ag a 31,ag a 32,ag a 33,ag a 34⟩
  | 5,b=>
   obtain rfl:(1,2,0,vp)=e:=au b;exact⟨ag a 35,ag a 36,ag a 37,ag a 38,ag a 39,ag a 40,ag a 41⟩
  | _+6,b=>cases b
 ·rintro e w' ⟨rfl,C⟩;have A:=C.out;refine⟨rfl,A.grow (ap _ _) λq c=>ah (ah c),?_⟩;obtain⟨_,_,_,_,_,_,_,G,H⟩:=A;exact(H.block r (G r (ah rfl)).1 λc=>c (ah rfl)).trans K
def xv(w0:World)(a r:Nat)(W:World):Prop:=BT w0 (λq=>q=r) W (xS E8 Kg) 7 a W
theorem GK(w0:World){m r q g B:Nat}{i f j:World}{y0 y1:Int}{y2:ByteArray}{ya:Option Addr}{yl yc:Nat}(w:xv w0 m r i)(y:aj i f/\i.heap.size<=q/\f.cell? ⟨q,1,none⟩=some (ab 7))(N:i.heap.size<=B)(E:nv (aY BH 12) B y0 y1 y2 ya yl yc f)(u:G2 r f)(h:aj f j)(A:f.heap.size<=g/\j.heap[g]?=some (.cells #[ab 3,ab 1,ab 0,ab y0,ab y1,af y2,ae ya yl yc,ab 1,ab 1,ab 0,ab 0,ab 0,af ⟨#[]⟩,ae none 0 0] 32)):am 20 #[aF m,ae (some ⟨g,0,none⟩) 2 2] j λe w'=>e=.returned (.bool true)/\Hid (tC w0 (xS (xS E8 Kg) NL) 9 m w'/\G2 r w'/\w'.cell? ⟨q,1,none⟩=some (ab 7)):=by
 obtain⟨k,L,n⟩:=y;obtain⟨F,K,rfl,G,H,I,J⟩:=E.parts nQ.2.2.2;obtain⟨M,a⟩:=A;have O:=(aD.1 a).1;have C:q<f.heap.size:=jt f ⟨q,1,none⟩ n;have D:=(aD.1 u).1;have P:=k.size;have Q:=h.size;have x:=k.trans (h.mono k.size);have z:=w.grow x (V':=λb=>b=r\/b=q\/b=g\/(B<=b/\b<f.heap.size)) λb d=>by
  rcases d with d|d|d|d
  ·exact ah d
  all_goals exact ai (by omega)
 refine(BA z NL KJ (by decide) g 2 (ai (ai (ah rfl))) (OA F 0) (xF ((y0,y1,y2),(ya,yc),K) sT) (λl e c=>?_) (λl e c=>?_)).mono ?_
 ·match l,c with
  | 0,c=>
   obtain rfl:(3,1,0,aY BH 12)=e:=au c;exact⟨⟨(H.below h).mono h.size,I.mono λb d=>ai (ai (ai d))⟩,J,ah G,iX (by decide)⟩
  | 1,c=>
   obtain rfl:(1,1,0,vp)=e:=au c;exact⟨⟨IZ _ _,ah rfl⟩,show (aw 1 sT).length<=2097152 by decide,ai (by decide),iX (by decide)⟩
  | _+2,c=>cases c
 ·match l,c with
  | 0,c=>
   obtain rfl:(3,1,0,aY BH 12)=e:=au c;exact⟨ag a 0,ag a 1,ag a 2,ag a 3,ag a 4,ag a 5,ag a 6⟩
  | 1,c=>
   obtain rfl:(1,1,0,vp)=e:=au c;exact⟨ag a 7,ag a 8,ag a 9,ag a 10,ag a 11,ag a 12,ag a 13⟩
  | _+2,c=>cases c
 ·rintro e w' ⟨rfl,v⟩;have t:=v.out;refine⟨rfl,t.at,?_⟩;obtain⟨_,_,_,_,_,_,_,o,s⟩:=t;refine⟨(s.block r (o r (ah rfl)).1 λd=>d (ah rfl)).trans ((h.block r D).trans u),?_⟩;rw[s.cell 1 (o q (ai (ah rfl))).1 λd=>d (ai (ah rfl))];exact(h.cell (p:=⟨q,1,none⟩) C).trans n
theorem GF(w0:World){c r:Nat}{W:World}(g:xv w0 c r W):am 7 #[aF c,ab 2] W λe w'=>∃nm m sa sl sc ma l b,e=.returned (.tuple #[af nm,.agg #[ab 1,ab 7,af m,ae sa sl sc],ae ma l b,ab 0])/\aj W w':=by
 obtain⟨t,p,rfl,h,_,q,_⟩:=g.at;obtain⟨⟨nm,o,n⟩,k,a⟩:=cd.1 If;simp only[fM]at a;obtain⟨rfl,a⟩:=a;refine(h.procS k (by decide) (by omega)).mono ?_;rintro e w' ⟨y0,y1,y2,ya,yl,yc,ma,b,rfl,d⟩;obtain⟨⟨⟨s,u,⟨f,_,_⟩,j,_⟩,_⟩,i⟩:=d.out;have:=(bD j).1;rw[f,a]at this;simp only[fM]at this;obtain⟨rfl,rfl,rfl⟩:=this;exact⟨_,_,ya,yl,yc,ma,_,b,rfl,i⟩
theorem Jr(w:World):am 5 #[] w λe w'=>e=.returned (.bool true)/\aj w w':=by
 refine Gn w (xw w) (λd a=>tC w Kh 0 d a) (λd a=>tC w E8 1 d a) (xv w) (λd a=>tC w (xS (xS E8 Kg) NL) 9 d a) (λf c a=>sO (ae f 2 c) [1,2] a) (nv uE) (nv (aY sL 12)) (nv (aY BH 12)) (GB w) (λf l c a b=>JK w b) (λd a b=>DA w b) (λa=>vg NV nQ.2.1 a) (λa=>vg LI nQ.2.2.1 a) (λa=>vg Nc nQ.2.2.2 a) (λd r s H I y z A J y0 y1 y2 ya yl yc L M N O Q P b g m p k D C i=>Dw w b g m p k D C i) (λd r a b=>GF w b) (λd r a x b n=>?_) (λf c s a x b n i=>Cw (b.later n) (Lr i) (by decide)) (λd r K s G y z A y0 y1 y2 ya yl yc b g m p j k i=>GK w b g m p j k i) λd a b=>?_
 ·obtain⟨E,B,rfl,g,_⟩:=b.at;refine((g.later n).aliveL).mono ?_;rintro e w' ⟨F,q,rfl,_,h,j,o⟩;rw[MJ]at h;have h:q=[1,2]:=by
   rw[h];exact List.mergeSort_of_pairwise (by simp[leI])
  subst h;obtain⟨f,c,rfl,v⟩:=j.row;exact⟨f,c,rfl,⟨f,c,rfl,v⟩,o⟩
 ·obtain⟨E,B,rfl,g,_,_,t,_⟩:=b;refine g.aliveL.mono ?_;rintro e w' ⟨F,q,rfl,u,_,j,o⟩;rw[KI]at u;have h:q=[]:=List.Perm.eq_nil u;subst h;obtain⟨f,c,rfl,v⟩:=j.row;exact⟨f,c,rfl,t.trans (o.mono t.size)⟩
theorem Da(nm:ByteArray)(d v f g:Int)(h:ByteArray)(xa:Option Addr)(i xc:Nat)(w:World)(c:¬(nm=iq/\v=3)):am 11 #[.agg #[af nm,ab d,ab v,ab f,ab g,af h,ae xa i xc]] w λe w'=>e=.returned (.bool false)/\aj w w':=by
 go_enter Tryz.func11,Tryz.ntmps11;by_cases b:nm=iq
 ·subst b;have k:(v==3)=false:=by simpa using λa=>c ⟨rfl,a⟩
  unfold iq;go_wp2_with fail
  go_ret
  exact⟨rfl,(ap _ _).alloc (ak _) _⟩
 ·have j:(nm.toList==[101,110,100])=false:=by
    rw[gn,b8];exact λa=>b (ByteArray.ext (mh.1 a))
  go_wp2_with fail
  go_ret
  exact⟨rfl,(ap _ _).alloc (ak _) _⟩
theorem Jm(n:Nat)(l:List (Bh (n+1)))(N:Option Addr)(E:Nat)(F:Nat)(A:List (Sk F))(sa:Option Addr)(sc:Nat)(O:Nat)(xs:List (Hn O))(xa:Option Addr)(xc:Nat)(w:World)(ax:gP (n+1) w.heap.size w N l)(az:l.length<=E)(aB:E<=maxLen)(ao:jY (n+1) l=true->(aw (n+6) (bW n l)).length<=2097152)(aC:px w.heap.size w 5 (NR F) (G9 F w.heap.size w) sa A)(aD:∀c∈A,(aw (F+1) c.2).length<=2097152)(aF:px w.heap.size w 7 (N2 O) (G5 O w.heap.size w) xa xs)(aI:∀c∈xs,(aw (O+1) c.2).length<=2097152)(ak:A.length<=1048576)(al:xs.length<=1048576):am 3 #[ae N l.length E,ae sa A.length sc,ae xa xs.length xc] w λe w'=>e=.returned (.bool true)/\aj w w':=by
 obtain⟨d,ab⟩:=Iy xs ((0,0,0),((0,0,⟨#[]⟩),(none,0),[]));have u:∀{h:World}{q o:Nat}{g:Value},aj w h->q<w.heap.size->w.cell? ⟨q,o,none⟩=some g->h.cell? ⟨q,o,none⟩=some g:=λ{h q o g} i f C=>(i.cell (p:=⟨q,o,none⟩) f).trans C
 refine Gk N l.length E sa A.length sc xa xs.length xc (λa=>(d a).1.1) (λa=>(d a).1.2.1) (λa=>(d a).1.2.2) (λa=>(d a).2.1.1) (λa=>(d a).2.1.2.1) (λa=>(d a).2.1.2.2) (λa=>(d a).2.2.1.1) (λa=>(d a).2.2.2.length) (λa=>(d a).2.2.1.2) w
  (λP a h=>zr dq w 1000 (4+a) P h) al (Jr w) (λh G=>Du dq dq.zero (λag k aN C=>C.start ag k aN) n l N E 1000 F A sa sc w h ax az aB ao aC aD ak G) (λP a h C=>C.below) (λP a h V aJ T=>?_) λP h aJ T=>?_
 ·obtain⟨p,z,R,rfl,v,⟨L,M⟩,J,af,i,W⟩:=T;obtain⟨q,o,S,f,s,an⟩:=IE aF (ab a V);refine⟨q,o,⟨S,u i f (s 0 _ rfl),u i f (s 1 _ rfl),u i f (s 2 _ rfl),u i f (s 3 _ rfl),u i f (s 4 _ rfl),u i f (s 5 _ rfl),u i f (s 6 _ rfl)⟩,λY y=>?_⟩;have U:∀h,aj Y h->((d a).1.1=2->∀g,z.get (d a).1.2.2=some g->g.2.2.length<3)->((d a).1.1=3->∀g,z.get (d a).1.2.1=some g->g.2.2.length<3)->Ol p.b (d a).1.1 (d a).1.2.1 (d a).1.2.2 (d a).2.1.1 (d a).2.1.2.1 (d a).2.1.2.2 (d a).2.2.1.1 (d a).2.2.2.length (d a).2.2.1.2 (zr dq w 1000 (4+(a+1)) p.b) h:=λh G X x=>by
   have D:=y.trans (G.mono y.size);refine(NT (v.later D) L af (by omega) (i.trans (D.mono i.size)) W (d a) an (aI _ (aG (ab a V))) dq ?_).mono ?_
   ·rw[J];exact M.do v.sound _ _ _ _ _ X x
   ·rintro e w' ⟨g,rfl,B⟩;have:=B.out.1;rw[J]at this;exact⟨g,rfl,this⟩
  refine⟨λX x=>U Y (ap _ _) (λj=>absurd j X) λj=>absurd j x,λaK K=>?_⟩;cases f:z.get aK with
  | none=>
   refine((v.later y).procN f).mono ?_;rintro e w' ⟨rfl,r⟩;refine⟨_,_,_,_,_,_,_,_,_,_,_,rfl,r,λQ H=>⟨λj=>absurd j (by decide),λ_=>?_⟩⟩;refine U Q (r.trans (H.mono r.size)) (λj g m=>?_) λj g m=>?_
   ·rcases K with⟨_,rfl⟩|⟨x,_⟩
    ·rw[f]at m;cases m
    ·omega
   ·rcases K with⟨x,_⟩|⟨_,rfl⟩
    ·omega
    ·rw[f]at m;cases m
  | some g=>
   obtain⟨ag,aP,aa⟩:=g;refine((v.later y).procS f (ay (ud L f:) (by decide)) (by omega)).mono ?_;rintro e w' ⟨y0,y1,y2,ya,yl,yc,aQ,aR,rfl,B⟩;obtain⟨_,r⟩:=B.out;refine⟨_,_,_,_,_,_,_,_,_,_,_,rfl,r,λQ H=>⟨λ_ _=>?_,λj=>?_⟩⟩
   ·have D:=y.trans ((r.trans (H.mono r.size)).mono y.size);exact⟨p,z,R,rfl,v.later D,⟨L,M⟩,J,by omega,i.trans (D.mono i.size),W⟩
   ·have ad:aa.length<3:=by
      have:¬3<=aa.length:=λaO=>j ⟨rfl,aO⟩;omega
    refine U Q (r.trans (H.mono r.size)) (λj g m=>?_) λj g m=>?_
    ·rcases K with⟨_,rfl⟩|⟨x,_⟩
     ·rw[f]at m;obtain rfl:=au m;exact ad
     ·omega
    ·rcases K with⟨x,_⟩|⟨_,rfl⟩
     ·omega
     ·rw[f]at m;obtain rfl:=au m;exact ad
 ·obtain⟨p,z,R,rfl,v,⟨L,M⟩,J,af,i,W⟩:=T;have av:R.es.length<=100000:=by omega
  refine(v.events av).mono ?_;rintro e w' ⟨Z,c,rfl,B⟩;obtain⟨ah,aS,ai,aT,aL,aM⟩:=B.out;refine⟨Z,_,c,rfl,(vx Z _ c (λ_=>false) w' (by omega) λa V=>?_).mono ?_⟩
  ·obtain⟨ev,I⟩:∃ev,ai[a]?=some ev:=⟨_,aH (by omega)⟩;rcases aM.1 with j|⟨q,S,_,f,s⟩
   ·rw[j]at I;simp at I
   have k:=s a ev I;refine⟨q,0,ev.1,ev.2.1,ev.2.2.1,ev.2.2.2.1.1,ev.2.2.2.1.2.1,ev.2.2.2.1.2.2,ev.2.2.2.2.1.1,ev.2.2.2.2.2.length,ev.2.2.2.2.1.2,⟨S,f,?_,?_,?_,?_,?_,?_,?_⟩,λh G=>Da _ _ _ _ _ _ _ _ _ h ?_⟩
   ·simpa using k 0 _ rfl
   ·simpa using k 1 _ rfl
   ·simpa using k 2 _ rfl
   ·simpa using k 3 _ rfl
   ·simpa using k 4 _ rfl
   ·simpa using k 5 _ rfl
   ·simpa using k 6 _ rfl
   ·have aA:ML ev∈z.evs:=by
      rw[<-aL];exact iQ (aG I)
    exact M.2 (ML ev) aA
  ·rintro e aU ⟨t,rfl,aE,aq⟩;have:t=false:=by
    cases t
    ·rfl
    ·obtain⟨_,_,j⟩:=aE.1 rfl;cases j
   subst this;have ar:=ah.trans (aq.mono ah.size);exact⟨rfl,i.trans (ar.mono i.size)⟩
theorem tA:(N n:Nat)->n<=N->(x:Tm n)->wt N (aO N n x)=wt n x
 | 0,0,_,_=>rfl
 | N+1,0,_,_=>by simp[aO,wt]
 | N+1,n+1,h,x=>by
  simp only[aO,wt,fK];congr 2;refine jm λy _=>?_;exact tA N n (by omega) y
theorem J7:(n:Nat)->(x:Tm n)->1<=wt n x
 | 0,_=>by simp[wt]
 | n+1,x=>by simp only[wt];omega
theorem qV{a:Type}(f g:a->Nat)(c:Nat):(l:List a)->(∀y∈l,f y<=g y+c)->(l.map f).sum<=(l.map g).sum+l.length*c
 | [],_=>by simp
 | y::l,h=>by
  have e:=h y (by simp);have i:=qV f g c l λd b=>h d (by simp[b]);simp only[aK,bv,aZ,Nat.add_mul,Nat.one_mul];omega
theorem nd(s:ByteArray)(N:Nat):wt (N+1) (aY s N)=1+s.size:=by simp[wt,aY]
theorem nS(N:Nat)(l:List (Tm N)):wt (N+1) (cX N l)=1+(l.map (wt N)).sum:=by simp[wt,cX]
theorem LS(k a:Int)(N:Nat):wt (N+1) (bK k a N)=1:=by simp[wt,bK]
theorem J8(n:Nat)(a:Ac (n+1)):wt (n+2) (bY n a)<=Mc (n+1) a+8:=by
 have f:=J7 (n+1) a.2.1.1;have g:=J7 (n+1) a.2.1.2;have b:l9.size=4:=rfl;have c:iJ.size=5:=rfl;have d:l7.size=4:=rfl;have e:lk.size=4:=rfl;unfold bY Mc;split
 ·rw[nS];simp only[aK,bX,bv,jo,nd];omega
 ·split
  ·rw[nS];simp only[aK,bX,bv,jo,nd,LS];omega
  ·split
   ·rw[nS];simp only[aK,bX,bv,jo,nd];omega
   ·rw[nS];simp only[aK,bX,bv,jo,nd];omega
theorem Ka(n:Nat)(c:Cl (n+1))(b:sQ (n+1) c=true):wt (n+4) (dw n c)<=Md (n+1) c+68:=by
 have h:Ki.size=2:=rfl;have i:c.2.2.length<=8:=by
  simp only[sQ,aA,bU]at b;omega
 have d:=qV (λa=>wt (n+2) (bY n a)) (Mc (n+1)) 8 c.2.2 λa _=>J8 n a;have e:=tA (n+3) (n+1) (by omega) c.1.1;have f:=tA (n+3) (n+1) (by omega) c.1.2.1;have g:=tA (n+3) (n+1) (by omega) c.1.2.2;unfold dw Md;rw[nS];simp only[aK,bX,bv,jo,nd,nS,fK,e,f,g];have j:(c.2.2.map (wt (n+2) ∘ bY n)).sum<=(c.2.2.map (Mc (n+1))).sum+c.2.2.length*8:=d;omega
theorem J9(n:Nat)(b:Bh (n+1))(c:vv (n+1) b=true):wt (n+5) (dF n b)<=Kj (n+1) b+413:=by
 have e:te.size=3:=rfl;simp only[vv,aA,bU,b9]at c;have g:(b.2.2.map (wt (n+4) ∘ dw n)).sum<=(b.2.2.map (Md (n+1))).sum+b.2.2.length*68:=qV (λa=>wt (n+4) (dw n a)) (Md (n+1)) 68 b.2.2 λa d=>Ka n a (c.2 a d);have f:b.2.2.length<=6:=by omega
 unfold dF Kj;rw[nS];simp only[aK,bv,nd,fK];omega
theorem Kb(n:Nat)(p:List (Bh (n+1)))(b:jY (n+1) p=true):wt (n+6) (bW n p)<=(p.map (Kj (n+1))).sum+2897:=by
 have d:nn.size=4:=rfl;simp only[jY,aA,bU,b9]at b;have f:(p.map (wt (n+5) ∘ dF n)).sum<=(p.map (Kj (n+1))).sum+p.length*413:=qV (λa=>wt (n+5) (dF n a)) (Kj (n+1)) 413 p λa c=>J9 n a (b.2 a c);have e:p.length<=7:=by omega
 unfold bW;rw[nS];simp only[aK,bv,nd,fK];omega
theorem AM(n:Nat)(p:List (Bh (n+1)))(a:jY (n+1) p=true)(d:(p.map (Kj (n+1))).sum<=1048576):(aw (n+6) (bW n p)).length<=2097152:=by
 have b:=qI (n+6) (bW n p);have c:=Kb n p a;omega
end Go.Proofs.YtckamaoibonjcaaGreat
