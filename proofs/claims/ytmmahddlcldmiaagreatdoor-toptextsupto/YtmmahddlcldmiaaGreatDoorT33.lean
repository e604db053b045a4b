/- Proved here: plain facts and contracts. No condition but what each names. -/
import Derived.Test.YtmmahddlcldmiaaGreatDoorT32
import Derived.Shelf.SortM.Plain
import Derived.Shelf.SortM.SortNone
import Derived.Test.YtmmahddlcldmiaaGreatDoorT31
namespace Go.Proofs.YtmmahddlcldmiaaGreatDoor
open Go.RowKit Go.Maps Go.Sort Go.Shelf Go.Proofs.Tryz
open Go.RowKit
set_option maxRecDepth 100000
set_option maxHeartbeats 1000000
theorem MJ{k:Type}{f:k->Value}{w:World}{j:Nat}{l:List (Int×k)}(n:wE f w j l)(r:∀p∈l,(Lit.int .i64 p.1).wf=true)(z:l.length<=maxLen):∃D:DataW Value,w.ownsMap Tryz.prog 3 rI j l.length D/\(intKeys D).Perm (l.map (·.1))/\Maps.size D=l.length:=by
 obtain⟨es,m,o,e,q⟩:=n;have i:∀a∈es.toList,∃b,a.key=.int .i64 b/\WideElems.rd Tryz.prog 3 rI a=some (.int .i64 b,.held a.val):=λa d=>by
  have u:(a.key,a.val)∈l.map λp=>(Value.int .i64 p.1,f p.2):=e▸cC.2 ⟨a,d,rfl⟩;obtain⟨p,s,c⟩:=cC.1 u;have g:a.key=.int .i64 p.1:=(congrArg Prod.fst c).symm;refine⟨p.1,g,?_⟩;unfold WideElems.rd;rw[g,keyOf_int_mk underlying3 (r p s)];rfl
 have t:es.size=l.length:=by
  have:=congrArg List.length e;simpa using this
 refine⟨_,⟨es,m,o,⟨by omega,q,λa d=>?_⟩,by omega,rfl⟩,?_,?_⟩
 ·obtain⟨b,_,c⟩:=i a d;exact⟨_,c⟩
 ·have c:es.toList.map (λa=>Go.intOf (WideElems.rg Tryz.prog 3 rI a).1)=l.map (·.1):=by
    have h:=congrArg (List.map λy:Value×Value=>match y.1 with| .int _ b=>b|_=>0) e;rw[gu,gu]at h;refine(ji λa d=>?_).trans (h.trans (ji λp _=>rfl));obtain⟨b,v,x⟩:=i a d;rw[WideElems.rg_of x];simp only[Function.comp,v,Go.intOf]
  rw[<-c];have:=(WideShapes.sorted_perm (es.toList.map (WideElems.rg Tryz.prog 3 rI))).map λp=>Go.intOf p.1;rw[gu]at this;exact this
 ·rw[<-t];simpa [Maps.size]using (WideShapes.sorted_perm (es.toList.map (WideElems.rg Tryz.prog 3 (rI)))).length_eq
theorem OV(m:Nat):AnyZI.SortsIn Tryz.prog Tryz.sortedA_ren Fence.wide m:=
 ⟨λb off cap g a c d e=>callsIn_wide.2 (AnyM.slices_Sort_int Tryz.sortA b off cap g a c d e),λf cap a=>callsIn_wide.2 (AnyM.slices_Sort_int_none Tryz.sortA f cap a)⟩
theorem uy(g:Nat)(f:Option Nat)(w:World)(S:List Int->Prop)(N:Nat)(m:w.cell? ⟨g,3,none⟩=some (.map f))(o:N<=1000)(l:SeqGives Fence.wide 2 Tryz.prog 83 #[.pointer (some ⟨w.heap.size,0,none⟩)] encZ S N (w.alloc (.cells #[.map f] 86))):Calls Tryz.prog 20 #[.pointer (some ⟨g,0,none⟩)] w λe w'=>∃v c,e=.returned v/\S c/\iC w.heap.size v (c.mergeSort leI) w'/\Below w.heap.size w w':=by
 refine(callsIn_wide (n:=6)).1 ?_;have h:∀b a,CallsIn Fence.wide 5 Tryz.prog 46 #[.map b] a λe w'=>e=.returned (.func (.func 83) #[] #[.pointer (some ⟨a.heap.size,0,none⟩)])/\w'=a.alloc (.cells #[.map b] 86):=λb a=>AnyZI.keys_in Tryz.keysA Fence.wide 5 trivial rfl b a;have d:=AnyZI.sorted_in Tryz.sortedA Fence.wide 5 trivial trivial trivial trivial rfl (by omega) (OV _) (enters_of func82 (by kernel_rfl) rfl) 83 #[.pointer (some ⟨w.heap.size,0,none⟩)] trivial (enters_of func83 (by kernel_rfl) rfl) _ _ (by unfold maxLen;omega) (by omega) _ l;change CallsIn _ _ Tryz.prog 45 _ _ _ at d;have p:Fence.wide.fn 46:=trivial;have q:Fence.wide.fn 45:=trivial;refine callsIn_of_wp func20 rfl trivial ?_ rfl;simp only[ntmps20,fq,bf,jF,Nat.reduceAdd,Nat.reduceSub,Array.replicate_succ,Array.replicate_zero,List.push_toArray,List.append_toArray,mR,fO]
 gi_wp2_with (first
  | (gi_at_call 46;refine(h _ _).mono ?_;rintro e w' ⟨rfl,rfl⟩)
  | (gi_at_call 45;refine d.mono ?_;rintro e w' ⟨v,c,rfl,i,k,r,j⟩))
 go_ret
 refine⟨v,c,rfl,i,?_,((ap _ w).alloc (ak _) _).trans (j.mono (by simp))⟩;have:=ownsRow_base_a k (by simp:w.heap.size<=_);unfold iC;rw[List.length_mergeSort];exact this
section
variable {p:kQ} {s:Sy} {d:fY} {w:World}
theorem bj.aliveL(i:bj p s d w):Calls Tryz.prog 20 #[.pointer (some ⟨p.b,0,none⟩)] w λe w'=>∃v q,e=.returned v/\q.Perm (s.ps.map (·.1))/\q=(s.ps.map (·.1)).mergeSort leI/\iC w.heap.size v q w'/\Below w.heap.size w w':=by
 obtain⟨c,C,u,D,E,F⟩:=i.keys;have G:d.l.length=s.ps.length:=by
  have:=congrArg List.length c;simpa using this
 have g:=i.cells.2.2.2;have o:Below w.heap.size w (w.alloc (.cells #[.map d.po] 86)):=(ap _ w).alloc (ak _) _;rcases i.pm with⟨n,h⟩|⟨k,n,_,_,h⟩
 ·rw[n]at g o;refine(uy p.b none w (λa=>a=[]) 0 g (by omega) (AnyZI.keys_gives_nil (ρ:=Tryz.keysA_ren) {Tryz.keysA with} Fence.wide _ trivial rfl w.heap.size _ (by simp) (by simp))).mono ?_;rintro e w' ⟨v,a,rfl,rfl,f,j⟩;exact⟨v,[],rfl,by rw[<-c,h];exact List.Perm.refl _,by rw[<-c,h];simp,by simpa using f,j⟩
 ·rw[n]at g o;have j:=i.low k (by omega)
  obtain⟨m,z,A,H⟩:=MJ (h.kept (o.block k (by omega))) (λt y=>by
   have:t.1∈s.ps.map (·.1):=c▸cC.2 ⟨t,y,rfl⟩;obtain⟨B,f,e⟩:=cC.1 this;have:=u B f;simp[Lit.wf,IntKind.min,IntKind.max,IntKind.signed,IntKind.bits]
   omega) (by unfold maxLen;omega)
  refine(uy p.b (some k) w (λa=>a.Perm (intKeys m)) (Maps.size m) g (by omega) (AnyZI.keys_gives (ρ:=Tryz.keysA_ren) {Tryz.keysA with} Fence.wide _ trivial rfl (by omega) w.heap.size k _ m _ (by simp) (by simp) z)).mono ?_;rintro e w' ⟨v,a,rfl,x,f,j⟩;have r:=x.trans (A.trans (List.Perm.of_eq c));exact⟨v,_,rfl,(List.mergeSort_perm a leI).trans r,mergeSort_of_perm_i r,f,j⟩
end
theorem wg{s:ByteArray}{t:Tc}(k:ng s 13 t)(n:bv 13 t=0)(W:World):am 17 #[ab 1,af s] W λe w'=>∃y0 y1 y2 ya yl yc,e=.returned (.agg #[ab 3,ab 1,ab 0,ab y0,ab y1,af y2,ae ya yl yc])/\Hid (nR t W.heap.size y0 y1 y2 ya yl yc w'/\aj W w'):=by
 refine IF 1 s W (λy0 y1 y2 ya yl yc d=>nR t W.heap.size y0 y1 y2 ya yl yc d) λj w x=>(vK k n j).mono ?_;rintro e w' ⟨b,a,rfl,i⟩;obtain⟨l,f,m,g⟩:=i;have y:=g.size;refine⟨_,_,_,_,_,_,rfl,g,λd o=>?_⟩;have p:nR t (W.heap.size+1) a.1.1 a.1.2.1 a.1.2.2 a.2.1.1 a.2.2.length a.2.1.2 w':=⟨b,a,⟨rfl,rfl,rfl⟩,l,f,(In.offB m f).mono λh c=>⟨by omega,c.2⟩⟩;obtain⟨b,a,q,r,u,v⟩:=p.kee o λh z A B=>by omega
 exact⟨b,a,q,r,u,v.mono λh c=>⟨by omega,c.2⟩⟩
theorem CR.grow{w0:World}{V V':Nat->Prop}{j:World}{s:Sy}{i g:Nat}{W b:World}(l:CR w0 V j s i g W)(d:aj W b)(r:∀q,V' q->V q\/(W.heap.size<=q/\q<b.heap.size)):CR w0 V' b s i g b:=by
 obtain⟨t,e,k,f,m,n,c,o,p⟩:=l;have u:=p.size;have v:=d.size;refine⟨t,e,k,f.later d,m,n,⟨c.1.trans (d.mono c.1.size),c.2⟩,λq a=>?_,br.refl _ _⟩;rcases r q a with a|a
 ·have:=o q a;exact⟨by omega,this.2⟩
 ·refine⟨a.2,?_⟩;by_cases h:e.ow q=0
  ·exact h
  ·have:=(f.low q h).2;omega
theorem Ez(w0:World){a:Nat}{W:World}(l:ur w0 Nl 0 a W):am 15 #[aB a,af qH,.agg #[ab 1,ab 2,af ⟨#[]⟩,ae none 0 0]] W λe w'=>e=.returned (.tuple #[ab 1,ab 0])/\Hid (ur w0 Gj 1 a w'):=by
 obtain⟨p,u,rfl,b,⟨c,d⟩,v,m,f⟩:=l;have o:In W.heap.size W 1 (Mr 2 0):=By 1 2 0 (by unfold dt;omega) (by unfold dt;omega) _ _;refine(b.start qH (by decide) (Mr 2 0) o (by decide) (by omega) (by omega)).mono ?_;rintro e w' ⟨s,q,rfl,j⟩;obtain⟨⟨g,n⟩,k,h,i⟩:=j;rw[c,qy d]at g h;have r:q=0:=g.trans Gk.1;subst r;have t:s=1:=n rfl;subst t;exact⟨rfl,p,k,rfl,h,⟨c,d⟩,by obtain⟨_,_,w,x,y,z⟩:=i;omega,m.trans (rR b i f),f⟩
theorem Na{g:Nat}{W:World}(b:W.heap[g]?=some (.cells #[ab 1,ab 2] 3)):tC (ae (some ⟨g,0,none⟩) 2 2) [1,2] W:=by
 refine⟨_,_,rfl,ai ⟨g,0,rfl,(aF.1 b).1,λi k a=>?_⟩⟩
 match i,a with
 | 0,a=>
  obtain rfl:1=k:=by simpa using a
  exact ag b 0
 | 1,a=>
  obtain rfl:2=k:=by simpa using a
  exact ag b 1
 | i+2,a=>simp at a
def tJ:Tm 1:=((0,0,⟨#[]⟩),(none,0),[])
theorem KB(B:Nat)(w:World):In B w 1 tJ:=⟨⟨by simp[tJ,dt],by simp[tJ,dt],aI _,by simp[tJ],by simp[tJ]⟩,ah rfl⟩
theorem jq{a b:Int}(c:0<=a/\a<=9/\0<=b/\b<=9):I2 (a,b):=by
 unfold I2 dt;simp only;omega
def Qm(m a:Nat):Nat->Nat
 | 0=>m
 | 1=>0
 | 2=>a
 | _+3=>0
def xF{m a:Nat}(x:Tm (m+1))(x':Tm (a+1)):(j:Nat)->Tm (Qm m a j+1)
 | 0=>x
 | 1=>tJ
 | 2=>x'
 | _+3=>tJ
theorem nR.parts{t:Tc}{B:Nat}{y0 y1:Int}{y2:ByteArray}{ya:Option Addr}{yl yc:Nat}{W:World}(b:nR t B y0 y1 y2 ya yl yc W)(e:bv 13 t=0):∃(m:Nat)(l:List (Tm m)),l.length=yl/\ay (m+1) ((y0,y1,y2),(ya,yc),l) 13 t=true/\In W.heap.size W (m+1) ((y0,y1,y2),(ya,yc),l)/\cd (λq=>B<=q/\q<W.heap.size) (m+1) ((y0,y1,y2),(ya,yc),l)/\(ax (m+1) ((y0,y1,y2),(ya,yc),l)).length<=2097152:=by
 obtain⟨m,f,⟨f1,f2,f3⟩,a,c,d⟩:=b;obtain⟨⟨h,i,j⟩,⟨k,n⟩,g⟩:=f;simp only[eG]at f1 f2;obtain⟨rfl,rfl,rfl⟩:=f1;obtain⟨rfl,rfl⟩:=f2;exact⟨m,g,f3,a,c,d,eg ((bJ a).trans e)⟩
theorem Es(w0:World){t r g m B2:Nat}{n d f h:World}{y0 y1:Int}{y2:ByteArray}{ya:Option Addr}{yl yc:Nat}{u v:Int}{w:ByteArray}{x:Option Addr}{B y:Nat}(D:ur w0 Gj 1 t n)(F:aj n d/\n.heap.size=r/\I5 r d)(al:r<m/\r<B2)(M:nR vB m y0 y1 y2 ya yl yc d)(p:aj d f)(N:nR (aZ tw 12) B2 u v w x B y f)(j:aj f h)(J:f.heap.size<=g/\h.heap[g]?=some (.cells #[ab 3,ab 1,ab 0,ab y0,ab y1,af y2,ae ya yl yc,ab 1,ab 1,ab 0,ab 0,ab 0,af ⟨#[]⟩,ae none 0 0,ab 3,ab 1,ab 0,ab u,ab v,af w,ae x B y,ab 1,ab 1,ab 0,ab 0,ab 0,af ⟨#[]⟩,ae none 0 0,ab 2,ab 1,ab 2,ab 0,ab 0,af ⟨#[]⟩,ae none 0 0,ab 1,ab 2,ab 0,ab 0,ab 0,af ⟨#[]⟩,ae none 0 0] 41)):am 16 #[aB t,ae (some ⟨g,0,none⟩) 6 6] h λe w'=>e=.returned (.bool true)/\Hid (CR w0 (λq=>q=r) w' (ze Gj LU) 7 t w'/\I5 r w'):=by
 obtain⟨o,ad,z⟩:=F;obtain⟨O,Z,rfl,Q,R,S,T⟩:=M.parts qD.2.1;obtain⟨P,aa,rfl,U,W,X,Y⟩:=N.parts qD.2.2.1;obtain⟨ak,a⟩:=J;have an:=(aF.1 a).1;have L:=(aF.1 z).1;have ao:=o.size;have aq:=p.size;have ar:=j.size;have i:=p.trans (j.mono p.size);have E:=o.trans (i.mono o.size);have K:=(i.block r L).trans z;have I:=D.from E (V:=λq=>q=r\/q=g\/(m<=q/\q<d.heap.size)\/(B2<=q/\q<f.heap.size)) λq c=>by rcases c with c|c|c|c<;>omega
 have k:∀{V:Nat->Prop},In h.heap.size h 1 tJ/\cd V 1 tJ:=λ{V}=>⟨KB _ _,ah rfl⟩;have l:(ax 1 tJ).length<=2097152:=by decide
 refine(Cv I LU JK (by decide) g 6 (ai (ah rfl)) (Qm O P) (xF ((y0,y1,y2),(ya,yc),Z) ((u,v,w),(x,y),aa)) (λs e b=>?_) (λs e b=>?_)).mono ?_
 ·match s,b with
  | 0,b=>
   obtain rfl:(3,1,0,vB)=e:=aw b;exact⟨⟨(R.below i).mono i.size,S.mono λq c=>ai (ai (ah c))⟩,T,ah Q,jq (by decide)⟩
  | 1,b=>
   obtain rfl:(1,1,0,tz)=e:=aw b;exact⟨k,l,ai (by decide),jq (by decide)⟩
  | 2,b=>
   obtain rfl:(3,1,0,aZ tw 12)=e:=aw b;exact⟨⟨(W.below j).mono j.size,X.mono λq c=>ai (ai (ai c))⟩,Y,ah U,jq (by decide)⟩
  | 3,b=>
   obtain rfl:(1,1,0,tz)=e:=aw b;exact⟨k,l,ai (by decide),jq (by decide)⟩
  | 4,b=>
   obtain rfl:(2,1,2,tz)=e:=aw b;exact⟨k,l,ai (by decide),jq (by decide)⟩
  | 5,b=>
   obtain rfl:(1,2,0,tz)=e:=aw b;exact⟨k,l,ai (by decide),jq (by decide)⟩
  | _+6,b=>cases b
 ·match s,b with
  | 0,b=>
   obtain rfl:(3,1,0,vB)=e:=aw b;exact⟨ag a 0,ag a 1,ag a 2,ag a 3,ag a 4,ag a 5,ag a 6⟩
  | 1,b=>
   obtain rfl:(1,1,0,tz)=e:=aw b;exact⟨ag a 7,ag a 8,ag a 9,ag a 10,ag a 11,ag a 12,ag a 13⟩
  | 2,b=>
   obtain rfl:(3,1,0,aZ tw 12)=e:=aw b;exact⟨ag a 14,ag a 15,ag a 16,ag a 17,ag a 18,ag a 19,ag a 20⟩
  | 3,b=>
   obtain rfl:(1,1,0,tz)=e:=aw b;exact⟨ag a 21,ag a 22,ag a 23,ag a 24,ag a 25,ag a 26,ag a 27⟩
  | 4,b=>
   obtain rfl:(2,1,2,tz)=e:=aw b;exact⟨ag a 28,ag a 29,ag a 30,ag a 31,ag a 32,ag a 33,ag a 34⟩
  | 5,b=>
   obtain rfl:(1,2,0,tz)=e:=aw b;exact⟨ag a 35,ag a 36,ag a 37,ag a 38,ag a 39,ag a 40,ag a 41⟩
  | _+6,b=>cases b
 ·rintro e w' ⟨rfl,C⟩;have A:=C.out;refine⟨rfl,A.grow (ap _ _) λq c=>ah (ah c),?_⟩;obtain⟨_,_,_,_,_,_,_,G,H⟩:=A;exact(H.block r (G r (ah rfl)).1 λc=>c (ah rfl)).trans K
def yD(w0:World)(a r:Nat)(W:World):Prop:=CR w0 (λq=>q=r) W (ze Gj LU) 7 a W
theorem II(w0:World){m r q g B:Nat}{i f j:World}{y0 y1:Int}{y2:ByteArray}{ya:Option Addr}{yl yc:Nat}(w:yD w0 m r i)(y:aj i f/\i.heap.size<=q/\f.cell? ⟨q,1,none⟩=some (ab 7))(N:i.heap.size<=B)(E:nR (aZ CF 12) B y0 y1 y2 ya yl yc f)(u:I5 r f)(h:aj f j)(A:f.heap.size<=g/\j.heap[g]?=some (.cells #[ab 3,ab 1,ab 0,ab y0,ab y1,af y2,ae ya yl yc,ab 1,ab 1,ab 0,ab 0,ab 0,af ⟨#[]⟩,ae none 0 0] 41)):am 16 #[aB m,ae (some ⟨g,0,none⟩) 2 2] j λe w'=>e=.returned (.bool true)/\Hid (ur w0 (ze (ze Gj LU) Pv) 9 m w'/\I5 r w'/\w'.cell? ⟨q,1,none⟩=some (ab 7)):=by
 obtain⟨k,L,n⟩:=y;obtain⟨F,K,rfl,G,H,I,J⟩:=E.parts qD.2.2.2;obtain⟨M,a⟩:=A;have O:=(aF.1 a).1;have C:q<f.heap.size:=gV f ⟨q,1,none⟩ n;have D:=(aF.1 u).1;have P:=k.size;have Q:=h.size;have x:=k.trans (h.mono k.size);have z:=w.grow x (V':=λb=>b=r\/b=q\/b=g\/(B<=b/\b<f.heap.size)) λb d=>by
  rcases d with d|d|d|d
  ·exact ah d
  all_goals exact ai (by omega)
 refine(Cv z Pv Mt (by decide) g 2 (ai (ai (ah rfl))) (Qm F 0) (xF ((y0,y1,y2),(ya,yc),K) tJ) (λl e c=>?_) (λl e c=>?_)).mono ?_
 ·match l,c with
  | 0,c=>
   obtain rfl:(3,1,0,aZ CF 12)=e:=aw c;exact⟨⟨(H.below h).mono h.size,I.mono λb d=>ai (ai (ai d))⟩,J,ah G,jq (by decide)⟩
  | 1,c=>
   obtain rfl:(1,1,0,tz)=e:=aw c;exact⟨⟨KB _ _,ah rfl⟩,show (ax 1 tJ).length<=2097152 by decide,ai (by decide),jq (by decide)⟩
  | _+2,c=>cases c
 ·match l,c with
  | 0,c=>
   obtain rfl:(3,1,0,aZ CF 12)=e:=aw c;exact⟨ag a 0,ag a 1,ag a 2,ag a 3,ag a 4,ag a 5,ag a 6⟩
  | 1,c=>
   obtain rfl:(1,1,0,tz)=e:=aw c;exact⟨ag a 7,ag a 8,ag a 9,ag a 10,ag a 11,ag a 12,ag a 13⟩
  | _+2,c=>cases c
 ·rintro e w' ⟨rfl,v⟩;have t:=v.out;refine⟨rfl,t.at,?_⟩;obtain⟨_,_,_,_,_,_,_,o,s⟩:=t;refine⟨(s.block r (o r (ah rfl)).1 λd=>d (ah rfl)).trans ((h.block r D).trans u),?_⟩;rw[s.cell 1 (o q (ai (ah rfl))).1 λd=>d (ai (ah rfl))];exact(h.cell (p:=⟨q,1,none⟩) C).trans n
theorem ID(w0:World){c r:Nat}{W:World}(f:yD w0 c r W):am 18 #[aB c,ab 2] W λe w'=>∃nm l sa sl sc ma k b,e=.returned (.tuple #[af nm,.agg #[ab 1,ab 7,af l,ae sa sl sc],ae ma k b,ab 0])/\aj W w':=by
 obtain⟨s,o,rfl,g,_,p,_⟩:=f.at;obtain⟨⟨nm,n,m⟩,j,a⟩:=ci.1 JL;simp only[eG]at a;obtain⟨rfl,a⟩:=a;refine(g.procS j (by decide) (by omega)).mono ?_;rintro e w' ⟨y0,y1,y2,ya,yl,yc,ma,b,rfl,d⟩;obtain⟨⟨⟨q,t,⟨f1,_,_⟩,i,_⟩,_⟩,h⟩:=d;have:=(bG i).1;rw[f1,a]at this;simp only[eG]at this;obtain⟨rfl,rfl,rfl⟩:=this;exact⟨_,_,ya,yl,yc,ma,_,b,rfl,h⟩
theorem K4(w:World):am 4 #[] w λe w'=>e=.returned (.bool true)/\aj w w':=by
 refine Ib w (yE w) (λd a=>ur w Nl 0 d a) (λd a=>ur w Gj 1 d a) (yD w) (λd a=>ur w (ze (ze Gj LU) Pv) 9 d a) (λf c a=>tC (ae f 2 c) [1,2] a) (nR vB) (nR (aZ tw 12)) (nR (aZ CF 12)) (IA w) (λf l c a b=>Lr w b) (λd a b=>Ez w b) (λa=>wg PG qD.2.1 a) (λa=>wg Nx qD.2.2.1 a) (λa=>wg O1 qD.2.2.2 a) (λd r s H I y z A J y0 y1 y2 ya yl yc L M N O Q P b g m p k D C i=>Es w b g m p k D C i) (λd r a b=>ID w b) (λd r a x b n=>?_) (λf c s a x b n i=>Ds (b.later n) (Na i) (by decide)) (λd r K s G y z A y0 y1 y2 ya yl yc b g m p j k i=>II w b g m p j k i) λd a b=>?_
 ·obtain⟨E,B,rfl,g,_⟩:=b.at;refine((g.later n).aliveL).mono ?_;rintro e w' ⟨F,q,rfl,_,h,j,o⟩;rw[Ow]at h;have h:q=[1,2]:=by
   rw[h];exact List.mergeSort_of_pairwise (by simp[leI])
  subst h;obtain⟨f,c,rfl,v⟩:=j.row;exact⟨f,c,rfl,⟨f,c,rfl,v⟩,o⟩
 ·obtain⟨E,B,rfl,g,_,_,t,_⟩:=b;refine g.aliveL.mono ?_;rintro e w' ⟨F,q,rfl,u,_,j,o⟩;rw[Ms]at u;have h:q=[]:=List.Perm.eq_nil u;subst h;obtain⟨f,c,rfl,v⟩:=j.row;exact⟨f,c,rfl,t.trans (o.mono t.size)⟩
theorem rL{n:Nat}{l:List (Bh (n+1))}(a:ki n l=0)(room:Int):lJ n l room=if 0<=room/\room<=1000 then 0 else 1:=by
 unfold lJ;rw[a,if_neg (by simp)]
theorem Ag(n:Nat)(l:List (Bh (n+1)))(I:Option Addr)(N:Nat)(room:Int)(K:Nat)(v:List (Sk K))(sa:Option Addr)(sc:Nat)(L:Nat)(xs:List (Hn L))(xa:Option Addr)(xc:Nat)(w:World)(aX:fR (n+1) w.heap.size w I l)(au:l.length<=N)(aw:N<=maxLen)(ap:ky (n+1) l=true->(ax (n+6) (bK n l)).length<=2097152)(aa:pY w.heap.size w 5 (PB K) (Je K w.heap.size w) sa v)(ad:∀c∈v,(ax (K+1) c.2).length<=2097152)(aA:pY w.heap.size w 7 (PO L) (FR L w.heap.size w) xa xs)(aB:∀c∈xs,(ax (L+1) c.2).length<=2097152)(P:v.length<=1048576)(aL:xs.length<=1048576)(aY:I6 w.heap.size w):am 3 #[ae I l.length N,ab room,ae sa v.length sc,ae xa xs.length xc] w λe w'=>e=.returned (.bool true)/\aj w w':=by
 obtain⟨i,S⟩:=J9 xs ((0,0,0),((0,0,⟨#[]⟩),(none,0),[]));have G:∀{d:World}{E o:Nat}{ag:Value},aj w d->E<w.heap.size->w.cell? ⟨E,o,none⟩=some ag->d.cell? ⟨E,o,none⟩=some ag:=λ{d E o ag} f B h=>(f.cell (p:=⟨E,o,none⟩) B).trans h;have av:∀d,aj w d->fR (n+1) d.heap.size d I l:=λd s=>by
  have z:=cq (dP (n+1)) 2 (oI (n+1)) I;exact z.2.2.2.1 _ _ _ _ s.size (aX.below s)
 obtain⟨x,aq⟩:∃x:Nat->Sy,x=PQ n l room xs (tE n l room v):=⟨_,rfl⟩;have ar:∀a,a<xs.length->x (a+1)=((x a).do n l room (i a).1.1 (i a).1.2.1 (i a).1.2.2 (L+1) (i a).2).1:=λa t=>by
  rw[aq];exact Ld n l room _ (S a t)
 have ao:∀a,a<xs.length->FR L w.heap.size w (i a):=λa t=>by
  obtain⟨_,_,_,_,_,h⟩:=DC aA (S a t);exact h
 refine Lt I l.length N room sa v.length sc xa xs.length xc (λa=>(i a).1.1) (λa=>(i a).1.2.1) (λa=>(i a).1.2.2) (λa=>(i a).2.1.1) (λa=>(i a).2.1.2.1) (λa=>(i a).2.1.2.2) (λa=>(i a).2.2.1.1) (λa=>(i a).2.2.2.length) (λa=>(i a).2.2.1.2) (λa=>((x a).do n l room (i a).1.1 (i a).1.2.1 (i a).1.2.2 (L+1) (i a).2).2) w (ki n l)
  (λy0 y1 y2 ya yl yc d=>aj w d/\∃j:Tm (n+6),(j.1=(y0,y1,y2)/\j.2.1=(ya,yc)/\j.2.2.length=yl)/\ay (n+6) j (n+6) (I8 n l)=true/\In d.heap.size d (n+6) j)
  (λO d=>ki n l=0/\aj w d/\∃j:Tm (n+6),ay (n+6) j (n+6) (bK n l)=true/\O.data.toList=cN (n+6) j)
  (λy0 y1 y2 ya yl yc d=>ki n l=0/\aj w d/\∃(J:Nat)(q:Tm (J+1)),(q.1=(y0,y1,y2)/\q.2.1=(ya,yc)/\q.2.2.length=yl)/\ay (J+1) q (n+6) (bK n l)=true/\In d.heap.size d (J+1) q)
  (rZ n l w) (λA z c d=>rZ n l w A z c d/\(lJ n l room≠0\/4<v.length)) (λA z c pa d=>rZ n l w A z c d/\¬(lJ n l room≠0\/4<v.length)/\∃p X,p.b=pa/\pZ n l room w.heap.size 4 p (tE n l room v) X d)
  (λpa u a d=>kR n l room w (λ_=>False) (λ_=>Qe (i 0)) (4+a) (4+a) pa u (x a) (x a) d) (λq j pa u a M d=>kR n l room w (λC=>C=M) (λ_=>Qe (i a)) (4+a+q.toNat) (4+a+j.toNat) pa u (x (a+q.toNat)) (x (a+j.toNat)) d) aL (K4 w) (λd s=>?_) (λr y0 y1 y2 ya yl yc d an aU s=>?_) (λO d h=>h.2.1) (λO d h aQ=>?_) (λy0 y1 y2 ya yl yc d an aV s=>?_) (λA z c d hF=>?_) (λA z c d aN=>?_) (λA z c pa d aP=>?_) (λpa u a d h=>h.below) (λpa u a d t af h=>?_) (λq j pa u a M d h=>⟨h.below,?_⟩) (λq j pa u a M d an h f=>h.later f) (λj pa u a M d t af h=>?_) (λq pa u a M d t af h=>?_) (λpa u a M d h=>?_) (λpa u d af h=>?_)
 ·refine(Ev n l I N au aw d.heap.size d (av d s) (ak _) ap).mono ?_;rintro e w' ⟨j,rfl,g⟩;obtain⟨H,U,_,V⟩:=g.out;have k:=s.trans (H.mono s.size);exact⟨j.1.1,j.1.2.1,j.1.2.2,j.2.1.1,j.2.2.length,j.2.1.2,rfl,k,k,j,⟨rfl,rfl,rfl⟩,V,U⟩
 ·obtain⟨f,⟨⟨a7,a8,a9⟩,⟨ba,bb⟩,bc⟩,⟨f1,f2,f3⟩,y,T⟩:=aU;simp only[eG]at f1 f2;obtain⟨rfl,rfl,rfl⟩:=f1;obtain⟨rfl,rfl⟩:=f2;subst f3;rw[(dH r).2.2]at y;have F:=f.trans (s.mono f.size);refine(Ex ((T.below s).mono s.size) ((bJ y).trans (dH r).2.1) (λa3 P=>aY.on F a3 (P.mono F.size))).mono ?_;rintro e w' ⟨O,rfl,g⟩;exact⟨O,rfl,r,F.trans (g.out.2.mono F.size),_,y,g.out.1⟩
 ·obtain⟨r,f,j,y,aR⟩:=h;have m:=(bJ y).trans (dH r).2.1;refine(vK (IT m aR aQ) m d).mono ?_;rintro e w' ⟨J,q,rfl,g⟩;obtain⟨H,U,_,V⟩:=g.out;exact⟨_,_,_,_,_,_,0,rfl,r,f.trans (V.mono f.size),J,q,⟨rfl,rfl,rfl⟩,bH _ _ _ _ _ _ H y,U⟩
 ·obtain⟨r,f,J,q,aW,y,T⟩:=aV;refine(xz r ⟨q,aW,y,(T.below s).mono s.size⟩).mono ?_;rintro e w' ⟨A,z,c,rfl,g⟩;obtain⟨H,C,k⟩:=g.out;have F:=f.trans (s.mono f.size);exact⟨A,z,c,rfl,r,F.trans (H.mono F.size),J,C,k⟩
 ·refine(oC n l I N room K v sa sc w d (av d hF.2.1) au aw ap aa ad P hF.2.1).mono ?_;rintro e w' (⟨rfl,g⟩|⟨pa,rfl,g⟩)
  ·exact ah ⟨rfl,hF.later g.out.2,g.out.1⟩
  ·obtain⟨aC,aD,p,X,aE,D⟩:=g.out;exact ai ⟨pa,rfl,hF.later aD,aC,p,X,aE,D.1,D.2.1,D.2.2.1,D.2.2.2.1,az hF.2.1.size D.2.2.2.2⟩
 ·obtain⟨⟨r,f,Y,C,rfl,m,Z,R,y⟩,Q⟩:=aN;refine(oC Y C A c room K v sa sc w d Z m.1 m.2 (λ_=>eg (dH R).2.1) aa ad P f).mono ?_;rw[rL r]at Q;rw[rL R];rintro e w' (⟨rfl,g⟩|⟨pa,rfl,g⟩)
  ·exact⟨rfl,f.trans (g.out.2.mono f.size)⟩
  ·exact absurd Q g.out.1
 ·obtain⟨⟨r,f,Y,C,rfl,m,Z,R,y⟩,Q,p,X,rfl,D⟩:=aP;refine(oC Y C A c room K v sa sc w d Z m.1 m.2 (λ_=>eg (dH R).2.1) aa ad P f).mono ?_;rw[rL r]at Q;rw[rL R,F0 y];rintro e w' (⟨rfl,g⟩|⟨u,rfl,g⟩)
  ·exact absurd g.out.1 Q
  ·obtain⟨_,aF,a2,a5,rfl,W⟩:=g.out;have aO:x 0=tE n l room v:=by rw[aq];rfl
   refine⟨a2.b,rfl,?_⟩;rw[aO];exact Lv _ r D ⟨W.1,⟨W.2.1.1,bH _ _ _ _ _ _ W.2.1.2 y⟩,W.2.2⟩ f aF
 ·obtain⟨E,o,aJ,B,m,_⟩:=DC aA (S a t);have f:=h.below;exact⟨E,o,⟨aJ,G f B (m 0 _ rfl),G f B (m 1 _ rfl),G f B (m 2 _ rfl),G f B (m 3 _ rfl),G f B (m 4 _ rfl),G f B (m 5 _ rfl),G f B (m 6 _ rfl)⟩,λa4 aS aT=>h.box aS aT⟩
 ·obtain⟨_,_,_,_,_,_,_,_,_,aM⟩:=h;exact(aM M rfl).1
 ·refine(h.doA (by simp;omega) (i a) (ao a t) (aB _ (aH (S a t)))).mono ?_;rintro e w' ⟨rfl,g⟩;refine⟨rfl,?_⟩;have:=g.out;simp only[Bool.toNat_false,iu]at this;rw[<-ar a t]at this;exact this
 ·refine(h.swap.doA (by simp;omega) (i a) (ao a t) (aB _ (aH (S a t)))).mono ?_;rintro e w' ⟨rfl,g⟩;refine⟨rfl,?_⟩;have:=g.out;simp only[Bool.toNat_false,iu]at this;rw[<-ar a t]at this;exact this.swap
 ·have:=h.less (R':=λ_=>False) (λ_ al=>al.elim) (ja:=4+(a+1)) (jb:=4+(a+1)) (by simp;omega);obtain⟨a0,a1,aG,aI,e,H,U,aZ,V,a6⟩:=this;exact⟨a0,a1,aG,aI,e,H,U,aZ,V,λC al=>al.elim⟩
 ·have T:4+xs.length<=110:=by omega
  have aK:kR n l room w (λ_=>False) (λ_=>Qe (i 0)) (4+xs.length) (4+xs.length) pa u (x xs.length) (x xs.length) d:=h;exact O2 T aK
theorem uo:(N n:Nat)->n<=N->(x:Tm n)->wt N (aS N n x)=wt n x
 | 0,0,_,_=>rfl
 | N+1,0,_,_=>by simp[aS,wt]
 | N+1,n+1,h,x=>by
  simp only[aS,wt,gu];congr 2;refine ji λy _=>?_;exact uo N n (by omega) y
theorem LK:(n:Nat)->(x:Tm n)->1<=wt n x
 | 0,_=>by simp[wt]
 | n+1,x=>by simp only[wt];omega
theorem rO{a:Type}(f g:a->Nat)(c:Nat):(l:List a)->(∀y∈l,f y<=g y+c)->(l.map f).sum<=(l.map g).sum+l.length*c
 | [],_=>by simp
 | y::l,h=>by
  have e:=h y (by simp);have i:=rO f g c l λd b=>h d (by simp[b]);simp only[aM,bA,bf,Nat.add_mul,Nat.one_mul];omega
theorem nG(s:ByteArray)(N:Nat):wt (N+1) (aZ s N)=1+s.size:=by simp[wt,aZ]
theorem oE(N:Nat)(l:List (Tm N)):wt (N+1) (cY N l)=1+(l.map (wt N)).sum:=by simp[wt,cY]
theorem NH(k a:Int)(N:Nat):wt (N+1) (bR k a N)=1:=by simp[wt,bR]
theorem LM(n:Nat)(a:Ac (n+1)):wt (n+2) (b9 n a)<=NW (n+1) a+8:=by
 have f:=LK (n+1) a.2.1.1;have g:=LK (n+1) a.2.1.2;have b:mJ.size=4:=rfl;have c:iX.size=5:=rfl;have d:mI.size=4:=rfl;have e:lL.size=4:=rfl;unfold b9 NW;split
 ·rw[oE];simp only[aM,b8,bA,gR,nG];omega
 ·split
  ·rw[oE];simp only[aM,b8,bA,gR,nG,NH];omega
  ·split
   ·rw[oE];simp only[aM,b8,bA,gR,nG];omega
   ·rw[oE];simp only[aM,b8,bA,gR,nG];omega
theorem LO(n:Nat)(c:Cl (n+1))(b:tF (n+1) c=true):wt (n+4) (dG n c)<=NX (n+1) c+68:=by
 have h:LW.size=2:=rfl;have i:c.2.2.length<=8:=by
  simp only[tF,aA,bO]at b;omega
 have d:=rO (λa=>wt (n+2) (b9 n a)) (NW (n+1)) 8 c.2.2 λa _=>LM n a;have e:=uo (n+3) (n+1) (by omega) c.1.1;have f:=uo (n+3) (n+1) (by omega) c.1.2.1;have g:=uo (n+3) (n+1) (by omega) c.1.2.2;unfold dG NX;rw[oE];simp only[aM,b8,bA,gR,nG,oE,gu,e,f,g];have j:(c.2.2.map (wt (n+2) ∘ b9 n)).sum<=(c.2.2.map (NW (n+1))).sum+c.2.2.length*8:=d;omega
theorem LN(n:Nat)(b:Bh (n+1))(c:wF (n+1) b=true):wt (n+5) (dQ n b)<=LX (n+1) b+413:=by
 have e:tV.size=3:=rfl;simp only[wF,aA,bO,bZ]at c;have g:(b.2.2.map (wt (n+4) ∘ dG n)).sum<=(b.2.2.map (NX (n+1))).sum+b.2.2.length*68:=rO (λa=>wt (n+4) (dG n a)) (NX (n+1)) 68 b.2.2 λa d=>LO n a (c.2 a d);have f:b.2.2.length<=6:=by omega
 unfold dQ LX;rw[oE];simp only[aM,bA,nG,gu];omega
theorem LP(n:Nat)(p:List (Bh (n+1)))(b:ky (n+1) p=true):wt (n+6) (bK n p)<=(p.map (LX (n+1))).sum+2897:=by
 have d:nL.size=4:=rfl;simp only[ky,aA,bO,bZ]at b;have f:(p.map (wt (n+5) ∘ dQ n)).sum<=(p.map (LX (n+1))).sum+p.length*413:=rO (λa=>wt (n+5) (dQ n a)) (LX (n+1)) 413 p λa c=>LN n a (b.2 a c);have e:p.length<=7:=by omega
 unfold bK;rw[oE];simp only[aM,bA,nG,gu];omega
theorem BK(n:Nat)(p:List (Bh (n+1)))(a:ky (n+1) p=true)(d:(p.map (LX (n+1))).sum<=1048576):(ax (n+6) (bK n p)).length<=2097152:=by
 have b:=rz (n+6) (bK n p);have c:=LP n p a;omega
end Go.Proofs.YtmmahddlcldmiaaGreatDoor
