/- What is proved here: plain facts and contracts that the claimed theorem stands on. No condition but those that each names. -/
import Derived.Test.YtmbjgiaebneodaaGreatG31
namespace Go.Proofs.YtmbjgiaebneodaaGreat
open Go.RowKit
set_option maxRecDepth 100000
set_option maxHeartbeats 2000000
theorem Db{l:List (Int×Nat)}{ps:List (Int×ByteArray×Tc×List Tc)}(k:Int)(a:l.map (·.1)=ps.map (·.1)):(dd l k).isSome=((ps.find? λp=>p.1==k).map (·.2)).isSome:=by
 induction l generalizing ps with
 | nil=>
  cases ps with
  | nil=>rfl
  | cons b ps=>simp at a
 | cons c l ih=>
  cases ps with
  | nil=>simp at a
  | cons b ps=>
   simp only[aJ,List.cons.injEq]at a;have ih:=ih a.2;unfold dd at ih ⊢;rw[iE,iE,a.1];cases b.1==k
   ·exact ih
   ·rfl
section
variable {p:mg} {s:Sy} {d:fX} {w:World}
theorem aV.alive(a:aV p s d w)(k:Int):(dd d.l k).isSome=(s.get k).isSome:=Db k a.keys.1
theorem aV.look(g:aV p s d w)(k:Int)(c:Bool):(Instr.lookup 64 (.map d.po) (.int .i64 k) c).run Tryz.prog w=.ok (if c then .tuple #[match dd d.l k with|some b=>tY b|none=> .pointer none,.bool (dd d.l k).isSome]else match dd d.l k with|some b=>tY b|none=> .pointer none) w:=by
 rcases g.pm with⟨a,f⟩|⟨j,a,_,_,f⟩
 ·rw[a,f];have:=AC w k c;cases c<;>exact this
 ·rw[a];obtain⟨h,i⟩:=f.look k c;cases e:dd d.l k with
  | none=>
   rw[h e];cases c<;>rfl
  | some b=>
   rw[i b e];cases c<;>rfl
theorem aV.cells(c:aV p s d w):w.cell? ⟨p.b,0,none⟩=some (.slice p.pa p.prog.length p.pc)/\w.cell? ⟨p.b,1,none⟩=some (.int .i64 p.room)/\w.cell? ⟨p.b,2,none⟩=some (.int .i64 s.last)/\w.cell? ⟨p.b,3,none⟩=some (.map d.po):=by
 have a:=c.box;exact⟨ab a 0,ab a 1,ab a 2,ab a 3⟩
theorem aV.isAlive(a:aV p s d w)(k:Int):Calls Tryz.prog 40 #[.pointer (some ⟨p.b,0,none⟩),.int .i64 k] w λe w'=>e=.returned (.bool (s.get k).isSome)/\w'=w:=by
 have i:=a.cells.2.2.2;have f:=a.look k true;rw[if_pos rfl]at f;have c:=a.alive k;obtain⟨h,g⟩:∃h,h=(s.get k).isSome:=⟨_,rfl⟩;rw[<-g]at c ⊢;rw[c]at f;generalize (match dd d.l k with|some b=>tY b|none=> .pointer none)=m at f;clear c g;generalize d.po=j at*;clear a;go_enter Tryz.func40,Tryz.ntmps40;go_wp2_with fail
 go_ret
 exact⟨rfl,rfl⟩
theorem aV.len(c:aV p s d w)(ty:TypeId):(Builtin.len_ #[64] ty #[.map d.po]).run Tryz.prog w=.ok (.int .i64 s.ps.length) w:=by
 have e:d.l.length=s.ps.length:=by
  have:=congrArg List.length c.keys.1;simpa using this
 rcases c.pm with⟨a,b⟩|⟨f,a,_,_,b⟩
 ·rw[a,<-e,b];exact Maps.len_nil Tryz.underlying64 ty
 ·rw[a,<-e];exact b.len ty
theorem aV.mayHave(c:aV p s d w)(n:Nat)(r:n<=1000):Calls Tryz.prog 26 #[.pointer (some ⟨p.b,0,none⟩),.int .i64 n] w λe w'=>e=.returned (.bool (s.may n))/\w'=w:=by
 obtain⟨_,_,k,l⟩:=c.cells;have q:=c.len 3;obtain⟨_,_,_,t,u,v⟩:=c.keys;obtain⟨j,a⟩:∃j,j=s.may n:=⟨_,rfl⟩;rw[<-a];unfold Sy.may at a;generalize s.last=h at*;generalize s.ps.length=f at*;generalize d.po=x at*;clear c;have m:IntKind.i64.wrap ((f:Int)+n)=(f:Int)+n:=by rw[IntKind.wrap];simp[IntKind.bits,IntKind.signed];omega
 have o:IntKind.i64.wrap (h+n)=h+n:=by rw[IntKind.wrap];simp[IntKind.bits,IntKind.signed];omega
 go_enter Tryz.func26,Tryz.ntmps26;by_cases g:(f:Int)+n<=12
 ·by_cases i:h+n<=90
  ·rw[iO g,iO i]at a;subst a;go_wp2_with fail
   go_ret
   exact⟨rfl,rfl⟩
  ·rw[iO g,decide_eq_false i]at a;subst a;go_wp2_with fail
   go_ret
   exact⟨rfl,rfl⟩
 ·rw[decide_eq_false g]at a;subst a;go_wp2_with fail
  go_ret
  exact⟨rfl,rfl⟩
theorem AK(n:Nat)(nm:ByteArray)(l:List (Bh n))(q:Option Addr)(F len B r:Nat)(w:World)(J:l.length=len)(K:len<=9223372036854775807)(C:B<=w.heap.size)(_hsb:r<w.heap.size)(v:Hid (w.cell? ⟨r,0,none⟩=some (.slice q len F)))(y:Hid (fl n B w q l)):Calls Tryz.prog 27 #[.pointer (some ⟨r,0,none⟩),.string nm] w λe w'=>e=.returned (.bool (fY n nm l).isSome)/\Below w.heap.size w w':=by
 have H:=v.out;go_enter Tryz.func27,Tryz.ntmps27;go_wp2_with fail;go_loopw [12] (λm wr=>∃a:Nat,a<=len/\m=.int .i64 a/\Hid (Below w.heap.size w wr/\fY n nm l=fY n nm (l.drop a))) (λm _=>len-(intOf m).toNat)
 case atStart=>exact⟨0,by omega,rfl,ah _ _,rfl⟩
 case round=>
 obtain⟨a,I,rfl,c⟩:=hrel;by_cases L:a<len
 ·obtain⟨b,d⟩:∃b,l[a]?=some b:=⟨l[a]'(by omega),az _⟩;obtain⟨j,lo,rfl,E,x⟩:∃g o,q=some ⟨g,o,none⟩/\g<B/\Hid (∀(t:Nat)(f:Value),(mW n b)[t]?=some f->w.cell? ⟨g,o+a*2+t,none⟩=some f):=by
   rcases y.out with e|⟨g,o,e,D,A⟩
   ·rw[e]at d;simp at d
   ·exact⟨g,o,e,D,(A a _ d).1⟩
  have h:∀(t:Nat)(f:Value),(mW n b)[t]?=some f->wr.cell? ⟨j,lo+a*2+t,none⟩=some f:=λt f u=>(c.out.1.cell (p:=⟨j,lo+a*2+t,none⟩) (aM E C)).trans (x.out t f u);have G:wr.cell? ⟨j,lo+a*2,none⟩=some (.string b.1):=h 0 _ rfl;have O:wr.cell? ⟨j,lo+a*2+1,none⟩=some (.slice b.2.1.1 b.2.2.length b.2.1.2):=h 1 _ rfl;have M:(0:Int)<=(a:Int):=by omega
  have N:(a:Int)<(len:Int):=by omega
  have s:Hid (∀o,Below w.heap.size w (wr.alloc o)):=λo=>c.out.1.alloc c.out.1.size o;by_cases i:b.1=nm
  ·have k:Hid (fY n nm l=some b):=by
     show _=_;rw[c.out.2,mX n nm d,if_pos i]
   rw[i]at G;clear h c d;go_wp2_with fail
   go_ret
   exact⟨bE (by rw[k.out];rfl),s.out _⟩
  ·have k:Hid (fY n nm l=fY n nm (l.drop (a+1))):=by
     show _=_;rw[c.out.2,mX n nm d,if_neg i]
   have u:(b.1.toList==nm.toList)=false:=by
    rw[gD];intro e;rw[dm,dm]at e;exact i (ByteArray.ext (Array.ext' e))
   clear h c d;go_wp2_with fail;go_roundw
   case rel=>exact⟨a+1,by omega,by go_num,s.out _,k.out⟩
   case measure=>simp[intOf];omega
 ·obtain rfl:a=len:=by omega
  have z:Hid (fY n nm l=none):=by
   show _=_;rw[c.out.2,List.drop_of_length_le (by omega)];rfl
  have HB:=ai c.out.1;clear c;go_wp2_with fail
  go_ret
  exact⟨bE (by rw[z.out];rfl),HB.out⟩
theorem aV.knows(a:aV p s d w)(nm:ByteArray):Calls Tryz.prog 27 #[.pointer (some ⟨p.b,0,none⟩),.string nm] w λe w'=>e=.returned (.bool (mF p.n p.prog nm))/\Below w.heap.size w w':=
 AK (p.n+1) nm p.prog p.pa p.pc p.prog.length w.heap.size p.b w rfl (au a.pg.2.1 a.pg.2.2.1) (ag _) a.lo.2 a.cells.1 a.pg.1.1
end
theorem mB{g:Type}{k j:Int}(d:j≠k):(l:List (Int×g))->(l.eraseP λp=>p.1==k).find? (λp=>p.1==j)=l.find? λp=>p.1==j
 | []=>rfl
 | a::l=>by
  rw[List.eraseP_cons];by_cases b:a.1=k
  ·have c:(a.1==k)=true:=by simpa using b
   have f:(a.1==j)=false:=by simp[b];exact λe=>d e.symm
   simp[c,f]
  ·have c:(a.1==k)=false:=by simpa using b
   simp only[c,cond_false,iE];rw[mB d l]
theorem uE{g:Type}{k:Int}:(l:List (Int×g))->(l.map (·.1)).Nodup->(l.eraseP λp=>p.1==k).find? (λp=>p.1==k)=none
 | [],_=>rfl
 | a::l,hn=>by
  rw[aJ,lk]at hn;rw[List.eraseP_cons];by_cases b:a.1=k
  ·have c:(a.1==k)=true:=by simpa using b
   simp only[c,cond_true];refine nG.2 λf e=>?_;simp only[cr];intro d;exact hn.1 (dy.2 ⟨f,e,d.trans b.symm⟩)
  ·have c:(a.1==k)=false:=by simpa using b
   simp only[c,cond_false,iE];exact uE l hn.2
def dB(a:Nat)(d b:fX)(w w':World):Prop:=bi (λq=>d.ow q<0) w w'/\(∀q,q<w.heap.size->b.ow q=d.ow q)/\b.k=d.k/\b.es.length<=d.es.length+a/\b.wn<=d.wn+a/\b.bn<=d.bn+a
theorem dB.trans{a b:Nat}{d d1 f:fX}{w w1 w2:World}(j:dB a d d1 w w1)(k:dB b d1 f w1 w2):dB (a+b) d f w w2:=by
 obtain⟨h,i,l,p,q,r⟩:=j;obtain⟨m,n,o,t,u,v⟩:=k;have s:=h.size;exact⟨h.trans m λc e g=>by rw[i c e]at g;exact g,λc e=>(n c (by omega)).trans (i c e),o.trans l,by omega,by omega,by omega⟩
theorem dB.mono{a b:Nat}{d d1:fX}{w w1:World}(c:dB a d d1 w w1)(k:a<=b):dB b d d1 w w1:=by
 obtain⟨e,f,g,h,i,j⟩:=c;exact⟨e,f,g,by omega,by omega,by omega⟩
theorem dB.later(d:fX){w w1:World}(a:Below w.heap.size w w1):dB 0 d d w w1:=⟨aC a _,λ_ _=>rfl,rfl,ag _,ag _,ag _⟩
theorem vB.up{p:mg}{s:Sy}{d:fX}{wt:ByteArray}{a b:Int}{t:Tc}{w w':World}(f:aV p s d w)(k:vB p s d wt a b t w w'):∃e,aV p (s.tell wt a b t) e w'/\dB 1 d e w w':=by
 obtain⟨l,m,g,h⟩:=k;refine⟨_,g,h.mono λi _ c=>?_,λi j=>if_neg (by omega),rfl,by simp,fj _,fj _⟩;rcases c with c|c
 ·rw[c,f.own];decide
 ·rw[c];decide
section
variable {p:mg} {s:Sy} {d:fX} {w:World}
theorem aV.del(a:aV p s d w)(k:Int):∃w',(∀ty,(Builtin.delete_ #[64,3] ty #[.map d.po,.int .i64 k]).run Tryz.prog w=.ok (.tuple #[]) w')/\aV p {s with ps:=s.ps.eraseP λq=>q.1==k} {d with l:=d.l.eraseP λq=>q.1==k} w'/\bi (λq=>d.ow q=-5/\q≠p.b) w w':=by
 have J:(d.l.eraseP λq=>q.1==k).map (·.1)=(s.ps.eraseP λq=>q.1==k).map (·.1):=by
  have e:=congrArg (λl=>l.eraseP (λq=>q==k)) a.keys.1;simpa [List.eraseP_map,Function.comp_def]using e
 obtain⟨E,u,F,G,H,I⟩:=a.keys;have L:(d.l.map (·.1)).Nodup:=by rw[E];exact u
 have v:∀(w':World),bi (λq=>d.ow q=-5/\q≠p.b) w w'->((d.po=none/\d.l.eraseP (λq=>q.1==k)=[])\/∃h,d.po=some h/\d.ow h=-5/\h≠p.b/\IM w' h (d.l.eraseP λq=>q.1==k))->aV p {s with ps:=s.ps.eraseP λq=>q.1==k} {d with l:=d.l.eraseP λq=>q.1==k} w':=λw' c M=>by
  have i:∀b,d.ow b≠0->d.ow b=d.ow b:=λ_ _=>rfl;have y:∀b,d.ow b≠0->p.lo<=b/\b<w'.heap.size:=λb q=>⟨(a.low b q).1,aM (a.low b q).2 c.size⟩;have m:w'.heap[p.b]?=some (.cells (dI p s d) 72):=(c.block p.b a.lo.2 λn=>n.2 rfl).trans a.box;have t:∀{t:Int},t≠ -5->∀b,d.ow b=t->¬(d.ow b=-5/\b≠p.b):=λO b e n=>O (e.symm.trans n.1);obtain⟨y1,y2,T⟩:=a.wyK c (t (by decide)) i rfl (oP m).1;obtain⟨f,g⟩:=a.evK c (t (by decide)) i;refine⟨y,m,a.own,⟨a.pgK c (t (by decide)) i,a.pg.2⟩,M,⟨J,?_,λq N=>F q (List.mem_of_mem_eraseP N),G,H,?_⟩,λj b q=>?_,⟨y1,y2,a.wy.2.2.1,a.wy.2.2.2.1,T⟩,a.bdK c (t (by decide)) i rfl (oP m).2,f,a.evt.1,g⟩
  ·exact(u.sublist ((List.eraseP_sublist (l:=s.ps) (p:=λq=>q.1==k)).map _))
  ·exact au (List.length_eraseP_le) I
  ·have x:j≠k:=λe=>by
     subst e;have:dd (d.l.eraseP λq=>q.1==j) j=none:=by unfold dd;rw[uE d.l L];rfl
     rw[this]at q;cases q
   have z:dd d.l j=some b:=by
    unfold dd at q ⊢;rw[mB x]at q;exact q
   obtain⟨P,B,A,r,D⟩:=a.psK c (ag _) (t (by have:=(a.key z).1;omega)) i y z;refine⟨P,B,A,?_,D⟩;unfold Sy.get at r ⊢;rw[mB x];exact r
 rcases a.pm with⟨f,g⟩|⟨h,f,g,o,C⟩
 ·refine⟨w,?_,v w (bi.refl _ _) (ae ⟨f,by rw[g];rfl⟩),bi.refl _ _⟩;have K:=Tryz.underlying64;intro ty;rw[f];simp[Builtin.delete_,bW K,jO,Result.andThen]
 ·obtain⟨w',Q,R,S,_⟩:=C.del k;have c:bi (λq=>d.ow q=-5/\q≠p.b) w w':=S.mono λq _ e=>by rw[e];exact⟨g,o⟩
  exact⟨w',λty=>by rw[f];exact Q ty,v w' c (af ⟨h,f,g,o,R⟩),c⟩
theorem CY(a:Nat)(c:Option Nat)(x how:Int)(w w1:World)(R:World->Prop)(f:Hid (w.cell? ⟨a,3,none⟩=some (.map c)))(i:∀ty,(Builtin.delete_ #[64,3] ty #[.map c,.int .i64 x]).run Tryz.prog w=.ok (.tuple #[]) w1)(g:Hid (Calls Tryz.prog 35 #[.pointer (some ⟨a,0,none⟩),.string ⟨#[101,110,100]⟩,.int .i64 x,.int .i64 how,.agg #[.int .i64 0,.int .i64 0,.string ⟨#[]⟩,.slice none 0 0]] w1 λe w'=>e=.returned (.tuple #[])/\R w')):Calls Tryz.prog 59 #[.pointer (some ⟨a,0,none⟩),.int .i64 x,.int .i64 how] w λe w'=>e=.returned (.tuple #[])/\R w':=by
 have h:=f.out;go_enter Tryz.func59,Tryz.ntmps59;go_wp2_with fail;refine g.out.mono ?_;rintro e j ⟨rfl,b⟩;have d:=ai b;clear b;go_wp2_with fail;exact dO (v:=.tuple #[]) (by simp[results]) rfl ⟨rfl,d.out⟩
theorem aV.drop(g:aV p s d w)(x how:Int)(k:d.es.length<=100000):Calls Tryz.prog 59 #[.pointer (some ⟨p.b,0,none⟩),.int .i64 x,.int .i64 how] w λe w'=>e=.returned (.tuple #[])/\Hid (∃c,aV p (s.drop x how) c w'/\dB 1 d c w w'):=by
 obtain⟨f,m,h,n⟩:=g.del x;refine CY p.b d.po x how w f _ g.cells.2.2.2 m ((h.tell Jm x how 0 0 ⟨#[]⟩ none 0 0 Ha (Fb f) k).mono λe w' a=>⟨a.1,?_⟩);obtain⟨c,i,j⟩:=a.2.out.up h;have o:dB 0 d {d with l:=d.l.eraseP λa=>a.1==x} w f:=⟨n.mono λa _ e=>by rw[e.1];decide,λ_ _=>rfl,rfl,ag _,ag _,ag _⟩;exact⟨c,i,(o.trans j).mono (ag _)⟩
end
theorem IE{w:World}{base:Nat}{e:TypeId}{sz:Nat}{v:Value}{n:Nat}{xs:List Value}(b:w.ownsRow base e sz v n xs):∃a c,v=.slice a n c:=by
 rcases b.2 with⟨rfl,rfl⟩|⟨f,c,d,rfl,_⟩
 ·exact⟨none,0,rfl⟩
 ·exact⟨_,c,rfl⟩
section
variable {p:mg} {s:Sy} {d:fX} {w:World}
theorem aV.parted(a:aV p s d w){x:Int}(u:cY x)(h:Bool):Calls Tryz.prog 60 #[.pointer (some ⟨p.b,5,none⟩),.int .i64 x,.bool h] w λe w'=>∃v,e=.returned v/\Hid (iQ w.heap.size v (rA s.bonds x h) w'/\aV p {s with bonds:=wo s.bonds (x::rA s.bonds x h)} d w'/\dB 0 d d w w'):=by
 refine(ER a.bd.1 a.bd.2.1 u h).mono ?_;rintro e w' ⟨v,rfl,l⟩;obtain⟨o,q,c⟩:=l.out;have f:∀b,d.ow b≠0->d.ow b=d.ow b:=λ_ _=>rfl;have j:∀b,d.ow b≠0->p.lo<=b/\b<w'.heap.size:=λb g=>⟨(a.low b g).1,aM (a.low b g).2 c.size⟩;have t:∀{t:Int},t≠ -2->∀b,d.ow b=t->¬d.bo=some b:=λr b e z=>r (e.symm.trans (a.bd.2.2 b z));have i:w'.heap[p.b]?=some (.cells (dI p s d) 72):=(c.block p.b a.lo.2 (t (by decide) p.b a.own)).trans a.box;obtain⟨y1,y2,y⟩:=a.wyK c (t (by decide)) f rfl (oP i).1;obtain⟨m,n⟩:=a.evK c (t (by decide)) f;exact⟨v,rfl,o,⟨j,i,a.own,⟨a.pgK c (t (by decide)) f,a.pg.2⟩,a.pmK c (λb e _=>t (by decide) b e) f,a.keys,λk b g=>a.psK c (ag _) (t (by have:=(a.key g).1;omega)) f j g,⟨y1,y2,a.wy.2.2.1,a.wy.2.2.2.1,y⟩,⟨q,a.bd.2.1.wo _,a.bd.2.2⟩,m,a.evt.1,n⟩,c.mono λb _ e=>by rw[a.bd.2.2 b e];decide,λ_ _=>rfl,rfl,ag _,ag _,ag _⟩
theorem Ia{g:Int×Int->Bool}(b:xq g)(x:Int)(a:Bool):(rA g x a).length<=99:=by
 unfold rA;split
 ·simp
 ·exact(BA b x).le
theorem Fg(b:Nat)(x how:Int)(w:World)(l:List Int)(L:Nat)(h:Bool)(R:Option Addr->Nat->Nat->World->Prop)(D:L<=99)(z:Hid (l.length=L))(s:h=(how==1))(o:Hid (Calls Tryz.prog 59 #[.pointer (some ⟨b,0,none⟩),.int .i64 x,.int .i64 how] w λe w'=>e=.returned (.tuple #[])/\Hid (Calls Tryz.prog 60 #[.pointer (some ⟨b,5,none⟩),.int .i64 x,.bool h] w' λe w'=>∃a c,e=.returned (.slice a L c)/\Hid (R a c 0 w'))))(A:Hid (∀a c j W,R a c j W->(∀(i:Nat)(k:Int),l[i]?=some k->∃g,a=some ⟨g,0,none⟩/\W.cell? ⟨g,i,none⟩=some (.int .i64 k))/\∀y,l[j]?=some y->Calls Tryz.prog 59 #[.pointer (some ⟨b,0,none⟩),.int .i64 y,.int .i64 4] W λe w'=>e=.returned (.tuple #[])/\Hid (R a c (j+1) w'))):Calls Tryz.prog 37 #[.pointer (some ⟨b,0,none⟩),.int .i64 x,.int .i64 how] w λe w'=>e=.returned (.tuple #[])/\Hid (∃a c,R a c L w'):=by
 go_enter Tryz.func37,Tryz.ntmps37;go_wp2_with fail;refine o.out.mono ?_;rintro e I ⟨rfl,n⟩;have E:(how==1)=h:=s.symm;clear o s;go_wp2_with fail;refine n.out.mono ?_;rintro e J ⟨a,c,rfl,d⟩;clear n;go_wp2_with fail;go_loopw [7,20] (λ_ i wr=>∃j:Nat,j<=L/\i=.int .i64 j/\Hid (R a c j wr)) (λ_ i _=>L-(intOf i).toNat)
 case atStart=>exact⟨0,aD _,rfl,d.out⟩
 case round=>
 obtain⟨j,F,rfl,f⟩:=hrel;by_cases C:j<L
 ·obtain⟨y,m⟩:∃y,l[j]?=some y:=⟨l[j]'(by rw[z.out];exact C),az _⟩;obtain⟨q,r⟩:=A.out a c j wr f.out;obtain⟨g,rfl,B⟩:=q j y m;have p:=ai (r y m);have G:(0:Int)<=(j:Int):=by omega
  have H:(j:Int)<(L:Int):=by omega
  clear q r m d;go_wp2_with fail;refine p.out.mono ?_;rintro e K ⟨rfl,t⟩;clear p B;go_wp2_with fail;go_roundw
  case rel=>exact⟨j+1,by omega,by go_num,t.out⟩
  case measure=>simp[intOf];omega
 ·obtain rfl:j=L:=by omega
  have u:=ai f.out;clear f d;go_wp2_with fail;exact dO (v:=.tuple #[]) (by simp[results]) rfl ⟨rfl,a,c,u.out⟩
theorem aV.fin(F:aV p s d w){x how:Int}(P:cY x)(ae:d.es.length<=99000):Calls Tryz.prog 37 #[.pointer (some ⟨p.b,0,none⟩),.int .i64 x,.int .i64 how] w λe w'=>e=.returned (.tuple #[])/\Hid (∃g,aV p (s.fin x how) g w'/\dB 100 d g w w'):=by
 have I:=Ia F.bd.2.1 x (how==1);obtain⟨l,z⟩:∃l,l=rA s.bonds x (how==1):=⟨_,rfl⟩;rw[<-z]at I;refine(Fg p.b x how w l l.length (how==1) (λf c B m=>∃g q,aV p ((l.take B).foldl (λs D=>s.drop D 4) {s.drop x how with bonds:=wo s.bonds (x::l)}) g m/\dB (1+B) d g w m/\iQ q (.slice f l.length c) l m/\∀a,(Value.slice f l.length c).ownBlock=some a->g.ow a=0) I rfl rfl ?_ ?_).mono ?_
 ·refine(F.drop x how (by omega)).mono ?_;rintro e aj ⟨rfl,j⟩;obtain⟨d1,G,T⟩:=j.out;refine⟨rfl,(G.parted P (how==1)).mono ?_⟩;rintro e ak ⟨U,rfl,L⟩;obtain⟨v,K,S⟩:=L.out;have h:(s.drop x how).bonds=s.bonds:=rfl;rw[h,<-z]at v K;obtain⟨f,c,rfl⟩:∃f c,U=.slice f l.length c:=IE v;refine⟨f,c,rfl,d1,_,K,(T.trans S).mono (by omega),v,λa A=>?_⟩;have ad:=(v.lt a A).1;by_cases H:d1.ow a=0
  ·exact H
  ·have:=(G.low a H).2;omega
 ·rintro f c B m ⟨g,q,r,t,u,E⟩;refine⟨λQ k n=>?_,λD J=>?_⟩
  ·obtain⟨W,X,e,o⟩:=u.row;injection e with h _ y;subst h y;rcases u.2 with⟨e,N⟩|⟨aa,Y,Z,e,_⟩
   ·rw[bL N]at n;simp at n
   ·injection e with h _ y;subst h y;rcases o with o|⟨ab,ai,e,ah,o⟩
    ·rw[o]at n;simp at n
    ·injection e with e;injection e with h O;subst h O;have:=o Q k n;rw[cQ]at this;exact⟨_,rfl,this⟩
  ·have af:=(aK.1 J).1;refine(r.drop D 4 (by have:=t.2.2.2.1;omega)).mono ?_;rintro e w' ⟨rfl,j⟩;obtain⟨M,R,C⟩:=j.out;have A:∀a,(Value.slice f l.length c).ownBlock=some a->a<m.heap.size:=λa i=>(u.lt a i).2;refine⟨rfl,M,q,?_,(t.trans C).mono (by omega),aT u C.1 λa i V=>by rw[E a i]at V;omega,λa i=>(C.2.1 a (A a i)).trans (E a i)⟩;rw[dz,J,ld];exact R
 ·rintro e w' ⟨rfl,j⟩;obtain⟨f,c,g,q,r,t,_⟩:=j.out;refine⟨rfl,g,?_,t.mono (by omega)⟩;rw[bk (ag _)]at r;unfold Sy.fin;rw[<-z];exact r
end
section
variable {p:mg} {s:Sy} {d:fX} {w:World}
theorem aV.linkB(c:aV p s d w){x y:Int}(J:cY x)(K:cY y)(F:d.bn<1000000):Calls Tryz.prog 88 #[.pointer (some ⟨p.b,5,none⟩),.int .i64 x,.int .i64 y] w λe w'=>e=.returned (.int .i64 (s9 x y))/\Hid (∃q,aV p {s with bonds:=if s9 x y=0 then fZ s.bonds (gR x y) true else s.bonds} q w'/\dB 1 d q w w'):=by
 refine(CK c.bd.1 J K F).mono ?_;rintro e w' ⟨rfl,A⟩;obtain⟨o,f,g,D⟩:=A.out;have H:=g.size;have i:∀b,Hl (Jq p s d) d.bo b->b=p.b\/d.ow b=-2:=λb e=>e.imp id (c.bd.2.2 b);have G:o≠some p.b:=λe=>by
  subst e;exact f.ne rfl
 have t:∀{t:Int},t≠ -2->t≠ -5->∀b,d.ow b=t->¬Hl (Jq p s d) d.bo b:=λf E b e a=>by
  rcases i b a with a|a
  ·rw[a,c.own]at e;exact E e.symm
  ·exact f (e.symm.trans a)
 have r:w'.heap[p.b]?=some (.cells (dI p {s with bonds:=if s9 x y=0 then fZ s.bonds (gR x y) true else s.bonds} {d with ow:=Cn d w w' (-2),bo:=o,bn:=d.bn+1}) 72):=by
  have:=f.2.1.2;simpa [Jq,dI]using this
 have z:=rT (t:=-2) c H c.lo.1;have h:=rU (w':=w') (t:=-2) c;obtain⟨B,C⟩:=oP r;obtain⟨y1,y2,N⟩:=c.wyK g (t (by decide) (by decide)) h rfl B;obtain⟨l,m⟩:=c.evK g (t (by decide) (by decide)) h;refine⟨rfl,{d with ow:=Cn d w w' (-2),bo:=o,bn:=d.bn+1},⟨z,r,(h p.b (by rw[c.own];decide)).trans c.own,⟨c.pgK g (t (by decide) (by decide)) h,c.pg.2⟩,c.pmK g (λb l m a=>?_) h,c.keys,λk b j=>c.psK g (ag _) (t (by have:=(c.key j).1;omega) (by have:=(c.key j).1;omega)) h z j,⟨y1,y2,c.wy.2.2.1,c.wy.2.2.2.1,N⟩,⟨?_,?_,λb e=>?_⟩,l,c.evt.1,m⟩,g.mono λb _ e=>?_,λj O=>if_neg (by omega),rfl,fj _,fj _,ag _⟩
 ·rcases i b a with a|a
  ·exact m a
  ·rw[l]at a;cases a
 ·exact⟨f.1,C,f.2.2⟩
 ·show xq (if s9 x y=0 then fZ s.bonds (gR x y) true else s.bonds);split
  ·rename_i n;intro k u;by_cases v:k=gR x y
   ·subst v;unfold s9 at n;split at n
    ·rename_i I;obtain⟨L,M,P⟩:=I;simp only[mh,aB,bV]at L M;unfold gR;simp only;omega
    ·cases n
   ·rw[bB _ _ v]at u;exact c.bd.2.1 k u
  ·exact c.bd.2.1
 ·rcases D b (af e)with a|a
  ·rcases i b a with a|a
   ·subst a;exact absurd e G
   ·exact(h b (by rw[a];decide)).trans a
  ·have:=(f.lt b (af e)).2;exact if_pos ⟨a,this⟩
 ·rcases i b e with a|a
  ·rw[a,c.own];decide
  ·rw[a];decide
theorem Iu(d:Nat)(a b:Int)(r:Bool)(v:Int)(w:World)(R:World->Prop)(f:Hid (Calls Tryz.prog 40 #[.pointer (some ⟨d,0,none⟩),.int .i64 b] w λe w'=>e=.returned (.bool r)/\w'=w))(i:Hid (r=false->R w))(j:Hid (r=true->Calls Tryz.prog 88 #[.pointer (some ⟨d,5,none⟩),.int .i64 a,.int .i64 b] w λe w'=>e=.returned (.int .i64 v)/\Hid (R w'))):Calls Tryz.prog 62 #[.pointer (some ⟨d,0,none⟩),.int .i64 a,.int .i64 b] w λe w'=>e=.returned (.tuple #[])/\Hid (R w'):=by
 go_enter Tryz.func62,Tryz.ntmps62;go_wp2_with fail;refine f.out.mono ?_;rintro e k ⟨rfl,g⟩;obtain rfl:=g.symm;clear g f;cases r
 ·have c:=ai (i.out rfl);go_wp2_with fail;exact dO (v:=.tuple #[]) (by simp[results]) rfl ⟨rfl,c.out⟩
 ·have c:=ai (j.out rfl);go_wp2_with fail;refine c.out.mono ?_;rintro e l ⟨rfl,h⟩;go_wp2_with fail;exact dO (v:=.tuple #[]) (by simp[results]) rfl ⟨rfl,h.out⟩
theorem aV.link(f:aV p s d w){a b:Int}(g:cY a)(h:cY b)(i:d.bn<1000000):Calls Tryz.prog 62 #[.pointer (some ⟨p.b,0,none⟩),.int .i64 a,.int .i64 b] w λe w'=>e=.returned (.tuple #[])/\Hid (∃c,aV p (s.link a b) c w'/\dB 1 d c w w'):=by
 refine Iu p.b a b (s.get b).isSome (s9 a b) w (λw'=>∃c,aV p (s.link a b) c w'/\dB 1 d c w w') (f.isAlive b) (λe=>⟨d,?_,(dB.later d (ah _ _)).mono (aD _)⟩) λe=>?_
 ·unfold Sy.link;rw[e];exact f
 ·unfold Sy.link;rw[e];exact f.linkB g h i
end
section
variable {p:mg} {s:Sy} {d:fX} {w:World}
theorem Gh{m:Nat}{x:Tm (m+1)}(c:bv (m+1) x=0)(a b:Int)(L:Nat):kv 12 a b (aH 13 (m+1) x) L=kv 12 a b (cn (m+1) x) L:=by
 have f:aA ⟨m+1,x⟩:=aI.2 (bt.1 c).1;have e:=io 13 (m+1) x f (by have:=(bt.1 c).2.1;omega);have d:=dV c;unfold kv;rw[bI e,cw _ _ _ _ e,bI d,cw _ _ _ _ d]
theorem aV.sendW(g:aV p s d w){a b:Int}(ak:I2 (a,b)){m:Nat}(x:Tm (m+1))(ap:In w.heap.size w (m+1) x)(A:bv (m+1) x=0)(am:d.wn<999999):Calls Tryz.prog 87 #[.pointer (some ⟨p.b,4,none⟩),.int .i64 a,.int .i64 b,de (m+1) x] w λe w'=>e=.returned (.int .i64 (kv 12 a b (cn (m+1) x) (s.ways (a,b)).length))/\Hid (∃o,aV p (if kv 12 a b (cn (m+1) x) (s.ways (a,b)).length=0 then {s with ways:=fZ s.ways (a,b) (s.ways (a,b)++ [cn (m+1) x])}else s) o w'/\dB 1 d o w w'):=by
 have Z:aA ⟨m+1,x⟩:=aI.2 (bt.1 A).1;have V:eQ (m+1) x<13:=by have:=(bt.1 A).2.1;omega
 have aa:=io 13 (m+1) x Z V;have W:(d.f (a,b)).length=(s.ways (a,b)).length:=by
  have:=congrArg List.length (g.wy.2.2.1 (a,b));simpa using this
 have aw:(d.f (a,b)).length<=20:=g.wy.2.2.2.1 _;have ao:de (m+1) x=de (12+1) (aH 13 (m+1) x):=(vX 12 m x).symm;rw[ao];have T:bv 13 (aH 13 (m+1) x)=0:=(bI aa).trans A;refine(Gi (N:=12) g.wy.1 ak (aH 13 (m+1) x) (qw 13 (m+1) x _ _ Z V ap) (eO T) am (by omega)).mono ?_;rintro e w' ⟨rfl,y,Q⟩;rw[W,Gh A]at y Q ⊢;refine⟨rfl,?_⟩;by_cases j:kv 12 a b (cn (m+1) x) (s.ways (a,b)).length=0;rotate_left
 ·rw[if_neg j];exact⟨d,g.later (y j),(dB.later d (y j)).mono (aD _)⟩
 rw[if_pos j];obtain⟨n,L,sl,ab,C,r,K,ad,aq⟩:=Q j;have R:aF 13 (cn (m+1) x)=true/\(s.ways (a,b)).length<20:=by
  unfold kv fT at j;split at j
  ·cases j
  ·split at j
   ·rename_i i;exact absurd j i
   ·split at j
    ·cases j
    ·rename_i i;split at j
     ·cases j
     ·exact⟨by simpa using i,by omega⟩
 have S:cn 13 n=cn (m+1) x:=(ge ab).trans (ge aa);have U:bv 13 n=0:=(bI ab).trans T;have al:aF 13 n=true:=by
  have:=cw _ _ _ _ (dV U);rw[S]at this;exact this.symm.trans R.1
 have an:=r.size;have B:=g.wy.2.1;have t:∀{t:Int},t≠ -1->t≠ -5->∀b,d.ow b=t->¬pW (xk p s d) d.wo d.sl b:=λy aj b e c=>by
  rcases B b c with c|c
  ·rw[c,g.own]at e;exact aj e.symm
  ·exact y (e.symm.trans c)
 obtain⟨o,v⟩:∃o,o={d with ow:=Cn d w w' (-1),wo:=L,wn:=d.wn+1,f:=fZ d.f (a,b) (d.f (a,b)++ [n]),sl:=sl}:=⟨_,rfl⟩;obtain⟨E,I⟩:∃E,E={s with ways:=fZ s.ways (a,b) (s.ways (a,b)++ [cn (m+1) x])}:=⟨_,rfl⟩;have H:w'.heap[p.b]?=some (.cells (dI p E o) 72):=by
  have:=C.2.1.2;rw[I,v];simpa [xk,dI]using this
 have X:=rT (t:=-1) g an g.lo.1;have q:=rU (w':=w') (t:=-1) g;obtain⟨O,P⟩:=oP H;rw[v]at P;have ax:∀h,pW (xk p E o) L sl h->pW (xk p s d) d.wo d.sl h\/w.heap.size<=h:=K;obtain⟨F,G⟩:=g.evK r (t (by decide) (by decide)) q;refine⟨o,?_,?_⟩
 ·rw[<-I,v];rw[I]at*;refine⟨X,by rw[v]at H;exact H,(q p.b (by rw[g.own];decide)).trans g.own,⟨g.pgK r (t (by decide) (by decide)) q,g.pg.2⟩,g.pmK r (λb F G c=>?_) q,g.keys,λk b h=>g.psK r (ag _) (t (by have:=(g.key h).1;omega) (by have:=(g.key h).1;omega)) q X h,⟨?_,λh c=>?_,λk=>?_,λk=>?_,λk c i=>?_⟩,g.bdK r (t (by decide) (by decide)) q rfl P,F,g.evt.1,G⟩
  ·rcases B b c with c|c
   ·exact G c
   ·rw[F]at c;cases c
  ·rw[v]at O;exact⟨C.1,O,C.2.2⟩
  ·rcases K h c with z|z
   ·exact(B h z).imp id λe=>(q h (by rw[e];decide)).trans e
   ·exact af (if_pos ⟨z,(C.lt h c).2⟩)
  ·by_cases l:k=(a,b)
   ·subst l;show (fZ d.f (a,b) (d.f (a,b)++ [n]) (a,b)).map (cn 13)=fZ s.ways (a,b) (s.ways (a,b)++ [cn (m+1) x]) (a,b);rw[cq,cq,gu,g.wy.2.2.1,aJ,bP,S]
   ·show (fZ d.f (a,b) (d.f (a,b)++ [n]) k).map (cn 13)=fZ s.ways (a,b) (s.ways (a,b)++ [cn (m+1) x]) k;rw[bB _ _ l,bB _ _ l];exact g.wy.2.2.1 k
  ·by_cases l:k=(a,b)
   ·subst l;show (fZ d.f (a,b) (d.f (a,b)++ [n]) (a,b)).length<=20;rw[cq,aW,W];have:=R.2;simp;omega
   ·show (fZ d.f (a,b) (d.f (a,b)++ [n]) k).length<=20;rw[bB _ _ l];exact g.wy.2.2.2.1 k
  ·have i:c∈fZ d.f (a,b) (d.f (a,b)++ [n]) k:=i;have Y:∀J,∀c∈d.f J,bv 13 c=0/\aF 13 c=true/\In w'.heap.size w' 13 c/\cg (λh=>Cn d w w' (-1) h=-1/\¬pW (xk p s d) L sl h) 13 c:=λJ c i=>by
    obtain⟨ar,au,ae,av⟩:=g.wy.2.2.2.2 J c i;have ah:=eR r (D:=λh=>(d.ow h=-1/\¬pW (xk p s d) d.wo d.sl h)/\h<w.heap.size) (λh z M=>z.1.2 M) ⟨ae,In.offB av ae⟩;refine⟨ar,au,ah.1,ah.2.mono λh u=>⟨(q h (by rw[u.1.1];decide)).trans u.1.1,λM=>?_⟩⟩;rcases K h M with ai|ai
    ·exact u.1.2 ai
    ·omega
   by_cases l:k=(a,b)
   ·subst l;rw[cq]at i;rcases dp.1 i with i|i
    ·exact Y _ c i
    ·obtain rfl:=ed.1 i;exact⟨U,al,ad,(In.offB aq ad).mono λh u=>⟨if_pos ⟨u.1.1,u.2⟩,u.1.2⟩⟩
   ·rw[bB _ _ l]at i;exact Y _ c i
 ·rw[v]
  exact⟨r.mono λb _ e=>by
   rcases B b e with c|c
   ·rw[c,g.own];decide
   ·rw[c];decide,λh ay=>if_neg (by omega),rfl,fj _,ag _,fj _⟩
end
theorem fx{w w':World}(b:Below w.heap.size w w'){q:Nat}{o:Obj}(a:w.heap[q]?=some o):w'.heap[q]?=some o:=(b.block q (aE.1 a).1).trans a
theorem Bt(x:Nat)(a b c d:Int)(f:ByteArray)(xa:Option Addr)(g xc:Nat)(v:Int)(w:World)(C R:World->Prop)(A:Hid (∀W,Below w.heap.size w W->Calls Tryz.prog 87 #[.pointer (some ⟨x,4,none⟩),.int .i64 a,.int .i64 b,.agg #[.int .i64 c,.int .i64 d,.string f,.slice xa g xc]] W λe w'=>e=.returned (.int .i64 v)/\Hid (C w'/\∀q,w.heap.size<=q->q<W.heap.size->w'.heap[q]?=W.heap[q]?)))(B:Hid (∀W,C W->Calls Tryz.prog 35 #[.pointer (some ⟨x,0,none⟩),.string (if v=0 then ⟨#[115,101,110,100]⟩else ⟨#[108,111,115,116]⟩),.int .i64 a,.int .i64 b,.agg #[.int .i64 c,.int .i64 d,.string f,.slice xa g xc]] W λe w'=>e=.returned (.tuple #[])/\Hid (R w'))):Calls Tryz.prog 61 #[.pointer (some ⟨x,0,none⟩),.int .i64 a,.int .i64 b,.agg #[.int .i64 c,.int .i64 d,.string f,.slice xa g xc]] w λe w'=>e=.returned (.tuple #[])/\Hid (R w'):=by
 go_enter Tryz.func61,Tryz.ntmps61;go_upto_region 1 with fail;generalize D:w.alloc _=h;have n:Hid (Below w.heap.size w h/\h.heap[w.heap.size]?=some (.cells #[.int .i64 c,.int .i64 d,.string f,.slice xa g xc] 30)):=by
  rw[<-D];exact⟨(ah _ _).alloc (ag _) _,ay _ _⟩
 clear D;obtain⟨q,m⟩:∃q,q=w.heap.size:=⟨_,rfl⟩;rw[<-m];have s:Hid (h.heap[q]?=some (.cells #[.int .i64 c,.int .i64 d,.string f,.slice xa g xc] 30)):=by rw[m];exact n.out.2
 have HB:=ai n.out.1;have E:=ai m;clear m n;have r:Hid (Below h.heap.size h h.drew):=(ah _ _).drew;have z:=ai (HB.out.trans (r.out.mono HB.out.size));have k:=ai (fx r.out s.out);have i:Hid (∀W:World,W.heap[q]?=some (.cells #[.int .i64 c,.int .i64 d,.string f,.slice xa g xc] 30)->W.cell? ⟨q,0,none⟩=some (.int .i64 c)/\W.cell? ⟨q,1,none⟩=some (.int .i64 d)/\W.cell? ⟨q,2,none⟩=some (.string f)/\W.cell? ⟨q,3,none⟩=some (.slice xa g xc)):=λW l=>⟨ab l 0,ab l 1,ab l 2,ab l 3⟩;obtain⟨F,G,H,I⟩:=i.out h s.out
 go_region_held3 (λW=>W.cell? ⟨q,0,none⟩=some (.int .i64 c)/\W.cell? ⟨q,1,none⟩=some (.int .i64 d)/\W.cell? ⟨q,2,none⟩=some (.string f)/\W.cell? ⟨q,3,none⟩=some (.slice xa g xc))
  (first|exact i.out _ k.out|exact i.out _ t.out) ((first
   | (go_at_call 87;refine(A.out _ z.out).mono ?_;rintro e y ⟨rfl,o⟩;have t:Hid (y.heap[q]?=some (.cells #[.int .i64 c,.int .i64 d,.string f,.slice xa g xc] 30)):=(o.out.2 q (by have:=E.out;omega) (aE.1 k.out).1).trans k.out)))
 obtain⟨K,d1,L,M⟩:=i.out y t.out;have j:=ai (B.out y o.out.1);clear F G H I A B i o t k z r HB s;by_cases u:v=0
 ·subst u;rw[if_pos rfl]at j;go_wp2_with fail;refine j.out.mono ?_;rintro e J ⟨rfl,p⟩;go_wp2_with fail;exact dO (v:=.tuple #[]) (by simp[results]) rfl ⟨rfl,p.out⟩
 ·rw[if_neg u]at j;have N:(v==0)=false:=by simpa using u
  go_wp2_with fail;refine j.out.mono ?_;rintro e J ⟨rfl,p⟩;go_wp2_with fail;exact dO (v:=.tuple #[]) (by simp[results]) rfl ⟨rfl,p.out⟩
section
variable {p:mg} {s:Sy} {d:fX} {w:World}
def CA(d:fX)(w:World){m:Nat}(x:Tm m):Prop:=In w.heap.size w m x/\cg (λq=>0<=d.ow q) m x
theorem CA.up{a m:Nat}{x:Tm m}{f:fX}{w':World}(c:CA d w x)(k:dB a d f w w'):CA f w' x:=by
 have g:=eR k.1 (D:=λb=>0<=d.ow b/\b<w.heap.size) (λb e h=>by omega) ⟨c.1,In.offB c.2 c.1⟩;exact⟨g.1,g.2.mono λb e=>by rw[k.2.1 b e.2];exact e.1⟩
theorem aV.send(o:aV p s d w){a b:Int}(A:I2 (a,b)){m:Nat}(x:Tm (m+1))(t:CA d w x)(q:bv (m+1) x=0)(B:d.wn<999999)(E:d.es.length<100000):Calls Tryz.prog 61 #[.pointer (some ⟨p.b,0,none⟩),.int .i64 a,.int .i64 b,de (m+1) x] w λe w'=>e=.returned (.tuple #[])/\Hid (∃j,aV p (s.send a b (cn (m+1) x)) j w'/\dB 2 d j w w'):=by
 obtain⟨i,r⟩:∃i,i=kv 12 a b (cn (m+1) x) (s.ways (a,b)).length:=⟨_,rfl⟩;refine Bt p.b a b x.1.1 x.1.2.1 x.1.2.2 x.2.1.1 x.2.2.length x.2.1.2 i w (λc=>∃d1,aV p (if i=0 then {s with ways:=fZ s.ways (a,b) (s.ways (a,b)++ [cn (m+1) x])}else s) d1 c/\dB 1 d d1 w c) (λc=>∃j,aV p (s.send a b (cn (m+1) x)) j c/\dB 2 d j w c) (λc g=>?_) λc g=>?_
 ·refine((o.later g).sendW A x ((t.1.below g).mono g.size) q B).mono ?_;rintro e w' ⟨rfl,k⟩;rw[<-r]at k ⊢;obtain⟨d1,n,h⟩:=k.out;refine⟨rfl,⟨d1,n,((dB.later d g).trans h).mono (ag _)⟩,λu D z=>h.1.block u z λF=>?_⟩;have:=(o.low u (by omega)).2;omega
 ·obtain⟨d1,n,h⟩:=g;have C:=t.up h;refine(n.tell (if i=0 then vS else mA) a b x.1.1 x.1.2.1 x.1.2.2 x.2.1.1 x.2.2.length x.2.1.2 (cn (m+1) x) (jq C.1 q) (by have:=h.2.2.2.1;omega)).mono ?_;rintro e w' ⟨rfl,k⟩;obtain⟨v,f,y⟩:=k.out.up n;refine⟨rfl,v,?_,(h.trans y).mono (ag _)⟩;unfold Sy.send;rw[<-r];by_cases l:i=0
  ·rw[if_pos l]at f ⊢;rw[if_pos l]at f;exact f
  ·rw[if_neg l]at f ⊢;rw[if_neg l]at f;exact f
end
def eT(a c:Nat)(d b:fX)(w w':World):Prop:=bi (λq=>d.ow q≠0) w w'/\(∀q,q<w.heap.size->b.ow q=d.ow q)/\b.k<=d.k+c/\b.es.length<=d.es.length+a/\b.wn<=d.wn+a/\b.bn<=d.bn+a
theorem eT.trans{a b c e:Nat}{d d1 h:fX}{w w1 w2:World}(l:eT a c d d1 w w1)(k:eT b e d1 h w1 w2):eT (a+b) (c+e) d h w w2:=by
 obtain⟨i,j,o,p,q,r⟩:=l;obtain⟨m,n,t,u,v,x⟩:=k;have s:=i.size;exact⟨i.trans m λf g e=>by rw[j f g]at e;exact e,λf g=>(n f (by omega)).trans (j f g),by omega,by omega,by omega,by omega⟩
theorem eT.mono{a b c e:Nat}{d d1:fX}{w w1:World}(f:eT a c d d1 w w1)(m:a<=b)(n:c<=e):eT b e d d1 w w1:=by
 obtain⟨g,h,i,j,k,l⟩:=f;exact⟨g,h,by omega,by omega,by omega,by omega⟩
theorem dB.un{a:Nat}{d d1:fX}{w w1:World}(b:dB a d d1 w w1):eT a 0 d d1 w w1:=⟨b.1.mono λq _ e=>by omega,b.2.1,by have:=b.2.2.1;omega,b.2.2.2⟩
theorem xZ{c:Type}(k j:Int)(v:c):(l:List (Int×c))->(l.map λp=>if p.1=k then (k,v)else p).find? (λp=>p.1==j)=(l.find? λp=>p.1==j).map λp=>if p.1=k then (k,v)else p
 | []=>rfl
 | a::l=>by
  rw[aJ,iE,iE,xZ k j v l];by_cases b:a.1=k
  ·rw[if_pos b];simp only[b];cases k==j<;>simp[b]
  ·rw[if_neg b];cases a.1==j<;>simp[b]
theorem P1.lie2{a f:Nat}{name:ByteArray}{room:Int}{cs:Tc}{c:List Tc}{k:Nat}{M:Nat->Prop}{w:World}(d:P1 a f name room cs c k M w):∀b,M b->a<=b/\b<w.heap.size:=by
 obtain⟨h,q,o,t,p,r,s,m,n,g,i,j,l,e⟩:=d;exact e
section
variable {p:mg} {s:Sy} {d:fX} {w:World}
theorem B8(s:Sy)(k j:Int)(v:ByteArray×Tc×List Tc):(s.put k v).get j=if j=k then (s.get k).map λ_=>v else s.get j:=by
 unfold Sy.put Sy.get;simp only;rw[xZ];by_cases a:j=k
 ·subst a;rw[if_pos rfl];cases e:s.ps.find? (λp=>p.1==j)with
  | none=>rfl
  | some b=>
   have:=List.find?_some e;simp only[cr]at this;simp[this]
 ·rw[if_neg a];cases e:s.ps.find? (λp=>p.1==j)with
  | none=>rfl
  | some b=>
   have:=List.find?_some e;simp only[cr]at this;simp[this,a]
theorem sS(s:Sy)(k:Int)(v:ByteArray×Tc×List Tc):(s.put k v).ps.map (·.1)=s.ps.map (·.1):=by
 unfold Sy.put;simp only[g8];refine lg λb _=>?_;by_cases a:b.1=k
 ·simp[a]
 ·simp[a]
theorem aV.turnP(a:aV p s d w){k:Int}{b:Nat}(y:dd d.l k=some b){nm:ByteArray}{cs m:Tc}{F i:List Tc}(S:s.get k=some (nm,cs,F)){w':World}(e:bi (λq=>d.ow q=k) w w'){N:Nat->Prop}{j:Nat}(Q:∀q,N q->d.ow q=k\/w.heap.size<=q)(T:d.k<=j)(x:P1 p.lo b nm p.room m i (j+201) N w')(P:i.length<=20):aV p (s.put k (nm,m,i)) {d with ow:=Cn d w w' k,k:=j} w'/\eT 0 (j-d.k) d {d with ow:=Cn d w w' k,k:=j} w w':=by
 have Z:=(a.key y).1;have v:=rT (t:=k) a e.size a.lo.1;have f:=rU (w':=w') (t:=k) a;have R:∀q,N q->p.lo<=q/\q<w'.heap.size:=P1.lie2 x;have t:∀{t:Int},t≠k->∀q,d.ow q=t->¬d.ow q=k:=λW q h g=>W (h.symm.trans g);have r:w'.heap[p.b]?=some (.cells (dI p s d) 72):=(e.block p.b a.lo.2 (t (by omega) p.b a.own)).trans a.box;obtain⟨y1,y2,Y⟩:=a.wyK e (t (by omega)) f rfl (oP r).1;obtain⟨G,H⟩:=a.evK e (t (by omega)) f;obtain⟨I,J,K,L,M,O⟩:=a.keys;have U:∀q∈(s.put k (nm,m,i)).ps,1<=q.1/\q.1<=s.last:=λq z=>by
  have:q.1∈(s.put k (nm,m,i)).ps.map (·.1):=dy.2 ⟨q,z,rfl⟩;rw[sS]at this;obtain⟨X,V,h⟩:=dy.1 this;rw[<-h];exact K X V
 refine⟨⟨v,r,(f p.b (by rw[a.own];decide)).trans a.own,⟨a.pgK e (t (by omega)) f,a.pg.2⟩,a.pmK e (λq h _=>t (by omega) q h) f,⟨by rw[sS];exact I,by rw[sS];exact J,U,L,M,by unfold Sy.put;simpa using O⟩,λn c q=>?_,⟨y1,y2,a.wy.2.2.1,a.wy.2.2.2.1,Y⟩,a.bdK e (t (by omega)) f rfl (oP r).2,G,a.evt.1,H⟩,e.mono λq _ h=>by rw[h];omega,λq z=>if_neg (by omega),by show j<=_;omega,ag _,ag _,ag _⟩;by_cases u:n=k
 ·subst u;have q:dd d.l n=some c:=q;rw[y]at q;obtain rfl:=aq q;refine⟨nm,m,i,by rw[B8,if_pos rfl,S];rfl,x.mono (λq g=>?_) (ag _) λq g=>v q (by have g:Cn d w w' n q=n:=g;rw[g];omega),P⟩;rcases Q q g with o|o
  ·exact(f q (by rw[o];omega)).trans o
  ·exact if_pos ⟨o,(R q g).2⟩
 ·obtain⟨A,B,C,D,E⟩:=a.psK e T (t u) f v q;exact⟨A,B,C,by rw[B8,if_neg u];exact D,E⟩
end
theorem D5(i L:Nat)(G:Option Nat)(a b d f:Int)(g:ByteArray)(xa:Option Addr)(h xc:Nat)(v:Int)(w:World)(o R:World->Prop)(V:i<w.heap.size)(M:Hid (w.cell? ⟨i,3,none⟩=some (.map G)))(H:Hid (∀W,Below w.heap.size w W->(Instr.lookup 64 (.map G) (.int .i64 b) false).run Tryz.prog W=.ok (.pointer (some ⟨L,0,none⟩)) W))(I:Hid (∀W,Below w.heap.size w W->Calls Tryz.prog 64 #[.pointer (some ⟨L,0,none⟩),.agg #[.int .i64 d,.int .i64 f,.string g,.slice xa h xc]] W λe w'=>e=.returned (.int .i64 v)/\Hid (o w'/\∀q,w.heap.size<=q->q<W.heap.size->w'.heap[q]?=W.heap[q]?)))(n:Hid (v=2->∀W,o W->Calls Tryz.prog 35 #[.pointer (some ⟨i,0,none⟩),.string ⟨#[108,111,115,116]⟩,.int .i64 a,.int .i64 b,.agg #[.int .i64 d,.int .i64 f,.string g,.slice xa h xc]] W λe w'=>e=.returned (.tuple #[])/\Hid (R w')))(l:Hid (v=6->∀W,o W->Calls Tryz.prog 37 #[.pointer (some ⟨i,0,none⟩),.int .i64 b,.int .i64 3] W λe w'=>e=.returned (.tuple #[])/\Hid (R w')))(m:Hid (v≠2->v≠6->∀W,o W->R W)):Calls Tryz.prog 41 #[.pointer (some ⟨i,0,none⟩),.int .i64 a,.int .i64 b,.agg #[.int .i64 d,.int .i64 f,.string g,.slice xa h xc]] w λe w'=>e=.returned (.tuple #[])/\Hid (R w'):=by
 go_enter Tryz.func41,Tryz.ntmps41;go_upto_region 1 with fail;generalize K:w.alloc _=c;have t:Hid (Below w.heap.size w c/\c.heap[w.heap.size]?=some (.cells #[.int .i64 d,.int .i64 f,.string g,.slice xa h xc] 30)):=by
  rw[<-K];exact⟨(ah _ _).alloc (ag _) _,ay _ _⟩
 clear K;obtain⟨q,s⟩:∃q,q=w.heap.size:=⟨_,rfl⟩;rw[<-s];have C:Hid (c.heap[q]?=some (.cells #[.int .i64 d,.int .i64 f,.string g,.slice xa h xc] 30)):=by rw[s];exact t.out.2
 have HB:=ai t.out.1;have N:=ai s;clear s t;have A:Hid (Below c.heap.size c c.drew):=(ah _ _).drew;have y:=ai (HB.out.trans (A.out.mono HB.out.size));have D:=ai (fx A.out C.out);have z:Hid (∀W:World,W.heap[q]?=some (.cells #[.int .i64 d,.int .i64 f,.string g,.slice xa h xc] 30)->W.cell? ⟨q,0,none⟩=some (.int .i64 d)/\W.cell? ⟨q,1,none⟩=some (.int .i64 f)/\W.cell? ⟨q,2,none⟩=some (.string g)/\W.cell? ⟨q,3,none⟩=some (.slice xa h xc)):=λW r=>⟨ab r 0,ab r 1,ab r 2,ab r 3⟩;obtain⟨O,P,Q,S⟩:=z.out c C.out;have T:c.cell? ⟨i,3,none⟩=some (.map G):=(HB.out.cell (p:=⟨i,3,none⟩) V).trans M.out;have U:=H.out c.drew y.out
 go_region_with ((first
     | (go_at_call 64;refine(I.out _ y.out).mono ?_;rintro e k ⟨rfl,u⟩;have J:Hid (k.heap[q]?=some (.cells #[.int .i64 d,.int .i64 f,.string g,.slice xa h xc] 30)):=(u.out.2 q (by have:=N.out;omega) (aE.1 D.out).1).trans D.out)))
 all_goals
  obtain⟨Y,d1,Z,aa⟩:=z.out k J.out;have B:=ai u.out.1;clear O P Q S T U H I z u J D y A HB C;by_cases E:v=2
  ·subst E;have j:=ai (n.out (by simp) k B.out);clear n l m;go_wp2_with fail;refine j.out.mono ?_;rintro e X ⟨rfl,x⟩;go_wp2_with fail;exact dO (v:=.tuple #[]) (by simp[results]) rfl ⟨rfl,x.out⟩
  ·have ad:(v==2)=false:=by simpa using E
   by_cases F:v=6
   ·subst F;have j:=ai (l.out (by simp) k B.out);clear n l m;go_wp2_with fail;refine j.out.mono ?_;rintro e X ⟨rfl,x⟩;go_wp2_with fail;exact dO (v:=.tuple #[]) (by simp[results]) rfl ⟨rfl,x.out⟩
   ·have ae:(v==6)=false:=by simpa using F
    have j:=ai (m.out E F k B.out);clear n l m;go_wp2_with fail;exact dO (v:=.tuple #[]) (by simp[results]) rfl ⟨rfl,j.out⟩
theorem Hz{m:Nat}{x:Tm m}(a:bv m x=0)(room:Int)(s:Tc)(ms:List Tc):jL m x room s ms=jL 13 (cn m x) room s ms:=by
 have b:=dV a;unfold jL;rw[bI b,cw _ _ _ _ b,BW a]
theorem yW{d:Type}(k:Int)(v:d):(l:List (Int×d))->(l.map (·.1)).Nodup->(l.find? λp=>p.1==k).map (·.2)=some v->(l.map λp=>if p.1=k then (k,v)else p)=l
 | [],_,_=>rfl
 | a::l,hn,h=>by
  rw[aJ,lk]at hn;rw[iE]at h;rw[aJ];by_cases b:a.1=k
  ·have c:(a.1==k)=true:=by simpa using b
   rw[c]at h;have f:a.2=v:=by simpa using h
   rw[if_pos b];congr 1
   ·rw[<-f,<-b]
   ·refine(lg λi g=>?_).trans (List.map_id l);rw[if_neg λe=>hn.1 (dy.2 ⟨i,g,e.trans b.symm⟩)];rfl
  ·have c:(a.1==k)=false:=by simpa using b
   rw[c]at h;rw[if_neg b,yW k v l hn.2 h]
theorem tw{s:Sy}{k:Int}{v:ByteArray×Tc×List Tc}(b:(s.ps.map (·.1)).Nodup)(a:s.get k=some v):s.put k v=s:=by
 unfold Sy.put;rw[yW k v s.ps b a]
section
variable {p:mg} {s:Sy} {d:fX} {w:World}
theorem aV.deliver(h:aV p s d w){a b:Int}(X:cY b){nm:ByteArray}{cs:Tc}{r:List Tc}(j:s.get b=some (nm,cs,r)){m:Nat}(x:Tm (m+1))(L:In w.heap.size w (m+1) x/\cg (λq=>¬1<=d.ow q) (m+1) x)(B:bv (m+1) x=0)(aa:d.k<=47000)(Z:d.es.length<=98000):Calls Tryz.prog 41 #[.pointer (some ⟨p.b,0,none⟩),.int .i64 a,.int .i64 b,de (m+1) x] w λe w'=>e=.returned (.tuple #[])/\Hid (∃z,aV p (s.deliver p.room a b (cn (m+1) x)) z w'/\eT 100 201 d z w w'):=by
 obtain⟨v,H⟩:∃v,dd d.l b=some v:=by
  have:=h.alive b;rw[j]at this;cases e:dd d.l b with
  | none=>rw[e]at this;cases this
  | some v=>exact⟨v,rfl⟩
 obtain⟨Y,Q,P,G,T,U⟩:=h.ps b v H;rw[j]at G;obtain⟨rfl,rfl,rfl⟩:nm=Y/\cs=Q/\r=P:=by
  injection G with G;injection G with J A;injection A with A S;exact⟨J,A,S⟩
 have N:=(h.key H).1;obtain⟨y,C⟩:∃y,y=jL 13 (cn (m+1) x) p.room cs r:=⟨_,rfl⟩;have ab:bv 13 (cn (m+1) x)=0:=(bI (dV B)).trans B;refine D5 p.b v d.po a b x.1.1 x.1.2.1 x.1.2.2 x.2.1.1 x.2.2.length x.2.1.2 y w (λg=>∃d1,aV p (if y=0 then s.put b (nm,cs,r++ [cn (m+1) x])else s.put b (nm,cs,r)) d1 g/\eT 0 201 d d1 w g/\In g.heap.size g (m+1) x) (λg=>∃z,aV p (s.deliver p.room a b (cn (m+1) x)) z g/\eT 100 201 d z w g) h.lo.2 h.cells.2.2.2 (λg f=>?_) (λg f=>?_) (λe g f=>?_) (λe g f=>?_) λJ A g f=>?_
 ·have:=(h.later f).look b false;rw[H]at this;exact this
 ·have W:=T.later f;have O:=(L.1.below f).mono f.size;refine(W.deliver x O (L.2.mono λq t F=>t (by rw[show d.ow q=b from F];exact N)) (eO B) (by omega) (by omega) (au h.lo.1 f.size)).mono ?_;rintro e w' ⟨rfl,u⟩;rw[Hz B,<-C]at u ⊢;obtain⟨c,n⟩:=u.out;have K:bi (λq=>d.ow q=b) g w':=⟨c.os,c.tape,c.output,c.size,c.block⟩;have V:(if y=0 then r++ [cn (m+1) x]else r).length<=20:=by
   split
   ·rename_i i;rw[C]at i;unfold jL at i;split at i
    ·cases i
    ·simp;omega
   ·exact U
  obtain⟨o,E⟩:=(h.later f).turnP H j K (λq t=>t.1) (show d.k<=d.k+201 by omega) n V;refine⟨rfl,⟨_,?_,(((dB.later d f).un.trans E).mono (ag _) (by omega)),?_⟩,λq ad F=>K.block q F λt=>?_⟩
  ·split
   ·rename_i i;rw[if_pos i]at o;exact o
   ·rename_i i;rw[if_neg i]at o;exact o
  ·exact(eR K (D:=λq=>¬1<=d.ow q) (λq t F=>t (by rw[F];exact N)) ⟨O,L.2⟩).1
  ·have:=(h.low q (by rw[t];omega)).2;omega
 ·obtain⟨d1,c,n,M⟩:=f;rw[if_neg (by rw[e];decide),tw h.keys.2.1 j]at c;refine(c.tell mA a b x.1.1 x.1.2.1 x.1.2.2 x.2.1.1 x.2.2.length x.2.1.2 (cn (m+1) x) (jq M B) (by have:=n.2.2.2.1;omega)).mono ?_;rintro R w' ⟨rfl,u⟩;obtain⟨I,o,E⟩:=u.out.up c;refine⟨rfl,I,?_,(n.trans E.un).mono (by omega) (by omega)⟩;unfold Sy.deliver;rw[j];simp only;rw[<-C,if_pos e];exact o
 ·obtain⟨d1,c,n,M⟩:=f;rw[if_neg (by rw[e];decide),tw h.keys.2.1 j]at c;refine(c.fin (how:=3) X (by have:=n.2.2.2.1;omega)).mono ?_;rintro R w' ⟨rfl,u⟩;obtain⟨I,o,E⟩:=u.out;refine⟨rfl,I,?_,(n.trans E.un).mono (by omega) (by omega)⟩;unfold Sy.deliver;rw[j];simp only;rw[<-C,if_neg (by rw[e];decide),if_pos e];exact o
 ·obtain⟨d1,c,n,M⟩:=f;refine⟨d1,?_,n.mono (by omega) (ag _)⟩;unfold Sy.deliver;rw[j];simp only;rw[<-C,if_neg J,if_neg A];by_cases i:y=0
  ·rw[if_pos i]at c ⊢;exact c
  ·rw[if_neg i]at c ⊢;rw[tw h.keys.2.1 j]at c;exact c
end
theorem yp(x:Nat)(a i j:Int)(k:ByteArray)(xa:Option Addr)(l xc:Nat)(g cl:Bool)(b:Int)(w:World)(R:Int->World->Prop)(z:Hid (∀W,Below w.heap.size w W->Calls Tryz.prog 40 #[.pointer (some ⟨x,0,none⟩),.int .i64 a] W λe w'=>e=.returned (.bool g)/\w'=W))(G:Hid (∀W,Below w.heap.size w W->Calls Tryz.prog 42 #[.agg #[.int .i64 i,.int .i64 j,.string k,.slice xa l xc]] W λe w'=>e=.returned (.int .i64 b)/\Below W.heap.size W w'))(E:Hid (∀W,Below w.heap.size w W->Calls Tryz.prog 43 #[.agg #[.int .i64 i,.int .i64 j,.string k,.slice xa l xc]] W λe w'=>e=.returned (.bool cl)/\Below W.heap.size W w'))(F:Hid (g=true->b=0->cl=true->∀W,Below w.heap.size w W->Calls Tryz.prog 41 #[.pointer (some ⟨x,0,none⟩),.int .i64 0,.int .i64 a,.agg #[.int .i64 i,.int .i64 j,.string k,.slice xa l xc]] W λe w'=>e=.returned (.tuple #[])/\Hid (R 0 w')))(r:Hid (∀W,Below w.heap.size w W->(g=false->R 4 W)/\(g=true->b≠0->R b W)/\(g=true->b=0->cl=false->R 5 W))):Calls Tryz.prog 19 #[.pointer (some ⟨x,0,none⟩),.int .i64 a,.agg #[.int .i64 i,.int .i64 j,.string k,.slice xa l xc]] w λe w'=>∃v,e=.returned (.int .i64 v)/\Hid (R v w'):=by
 go_enter Tryz.func19,Tryz.ntmps19;go_upto_region 1 with fail;generalize A:w.alloc _=y;have d:Hid (Below w.heap.size w y/\y.heap[w.heap.size]?=some (.cells #[.int .i64 i,.int .i64 j,.string k,.slice xa l xc] 30)):=by
  rw[<-A];exact⟨(ah _ _).alloc (ag _) _,ay _ _⟩
 clear A;go_wp2_with fail;refine(z.out _ d.out.1).mono ?_;rintro e K ⟨rfl,B⟩;obtain rfl:=B.symm;clear B z;cases g
 ·have h:=ai ((r.out y d.out.1).1 rfl);go_wp2_with fail
  go_ret
  exact⟨4,rfl,h.out⟩
 have c:=d.out.2;obtain⟨m,n,o,p⟩:=LD c;clear c;go_wp2_with fail;refine(G.out _ d.out.1).mono ?_;rintro e I ⟨rfl,s⟩;have f:=ai (⟨d.out.1.trans (s.mono d.out.1.size),fx s d.out.2⟩:_/\_);clear m n o p s;by_cases u:b=0;rotate_left
 ·have h:=ai ((r.out I f.out.1).2.1 (by simp) u);have J:(b !=0)=true:=by simpa using u
  go_wp2_with fail
  go_ret
  exact⟨b,rfl,h.out⟩
 subst u;have c:=f.out.2;obtain⟨m,n,o,p⟩:=LD c;clear c;go_wp2_with fail;refine(E.out _ f.out.1).mono ?_;rintro e C ⟨rfl,t⟩;have q:=ai (⟨f.out.1.trans (t.mono f.out.1.size),fx t f.out.2⟩:_/\_);clear m n o p t;cases cl
 ·have h:=ai ((r.out C q.out.1).2.2 (by simp) (by simp) (by simp));go_wp2_with fail
  go_ret
  exact⟨5,rfl,h.out⟩
 have c:=q.out.2;obtain⟨m,n,o,p⟩:=LD c;have H:=ai (F.out (by simp) (by simp) (by simp) C q.out.1);clear c;go_wp2_with fail;refine H.out.mono ?_;rintro e L ⟨rfl,D⟩;go_wp2_with fail
 go_ret
 exact⟨0,rfl,D.out⟩
section
variable {p:mg} {s:Sy} {d:fX} {w:World}
theorem aV.inject(j:aV p s d w){a:Int}(y:cY a){m:Nat}(x:Tm (m+1))(l:In w.heap.size w (m+1) x/\cg (λq=>¬1<=d.ow q) (m+1) x)(u:(ap (m+1) x).length<=2097152)(A:d.k<=47000)(t:d.es.length<=98000):Calls Tryz.prog 19 #[.pointer (some ⟨p.b,0,none⟩),.int .i64 a,de (m+1) x] w λe w'=>∃v,e=.returned (.int .i64 v)/\Hid (v=(s.inject p.room a (m+1) x).2/\∃g,aV p (s.inject p.room a (m+1) x).1 g w'/\eT 100 201 d g w w'):=by
 have o:∀f,Below w.heap.size w f->eT 100 201 d d w f:=λf c=>(dB.later d c).un.mono (aD _) (aD _);refine yp p.b a x.1.1 x.1.2.1 x.1.2.2 x.2.1.1 x.2.2.length x.2.1.2 (s.get a).isSome (aF (m+1) x) (bv (m+1) x) w (λv w'=>v=(s.inject p.room a (m+1) x).2/\∃g,aV p (s.inject p.room a (m+1) x).1 g w'/\eT 100 201 d g w w') (λf c=>(j.later c).isAlive a) (λf c=>dJ (m+1) x w.heap.size f (l.1.below c) c.size u) (λf c=>gK (m+1) x w.heap.size f (l.1.below c) c.size) (λh i n f c=>?_) λf c=>⟨λe=>?_,λh i=>?_,λh i n=>?_⟩
 ·obtain⟨v,z⟩:=gA.1 h;obtain⟨F,E,D⟩:=v;refine((j.later c).deliver y z x ⟨(l.1.below c).mono c.size,l.2⟩ i A t).mono ?_;rintro e w' ⟨rfl,r⟩;obtain⟨g,B,C⟩:=r.out;have e:s.inject p.room a (m+1) x=(s.deliver p.room 0 a (cn (m+1) x),0):=by
   unfold Sy.inject;rw[if_neg (by rw[h];decide),if_neg (by rw[i];decide),if_neg (by rw[n];decide)]
  rw[e];exact⟨rfl,rfl,g,B,((dB.later d c).un.trans C).mono (by omega) (by omega)⟩
 ·have e:s.inject p.room a (m+1) x=(s,4):=if_pos e;rw[e];exact⟨rfl,d,j.later c,o f c⟩
 ·have e:s.inject p.room a (m+1) x=(s,bv (m+1) x):=by
    unfold Sy.inject;rw[if_neg (by rw[h];decide),if_pos i]
  rw[e];exact⟨rfl,d,j.later c,o f c⟩
 ·have e:s.inject p.room a (m+1) x=(s,5):=by
    unfold Sy.inject;rw[if_neg (by rw[h];decide),if_neg (by rw[i];decide),if_pos n]
  rw[e];exact⟨rfl,d,j.later c,o f c⟩
end
end Go.Proofs.YtmbjgiaebneodaaGreat
