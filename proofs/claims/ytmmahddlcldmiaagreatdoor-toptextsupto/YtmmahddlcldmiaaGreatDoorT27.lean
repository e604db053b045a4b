/- Proved here: plain facts and contracts. No condition but what each names. -/
import Derived.MapKept
import Derived.Test.YtmmahddlcldmiaaGreatDoorT26
namespace Go.Proofs.YtmmahddlcldmiaaGreatDoor
open Go.MapKept Go.Proofs.Tryz
open Go.RowKit
set_option maxRecDepth 100000
set_option maxHeartbeats 2000000
def Ax(b:Nat):Value:=aB b
def wE{b:Type}(f:b->Value)(w:World)(c:Nat)(l:List (Int×b)):Prop:=∃es a,w.heap[c]?=some (.map es a)/\es.toList.map (λe=>(e.key,e.val))=l.map (λp=>(ab p.1,f p.2))/\Stamped es a
def cU{a:Type}(l:List (Int×a))(k:Int):Option a:=(l.find? λp=>p.1==k).map (·.2)
section
variable {α:Type} {f:α->Value}
theorem Fk(k:Int):(es:List MapEntry)->(l:List (Int×α))->(i:Nat)->es.map (λe=>(e.key,e.val))=l.map (λp=>(ab p.1,f p.2))-> Instr.findNow (.int .i64) (ab k) es i=some ((l.findIdx? (λp=>p.1==k)).map λj=>(i+j,((cU l k).map f).getD undef))
 | [],[],_,_=>rfl
 | [],_::_,_,h=>by simp at h
 | _::_,[],_,h=>by simp at h
 | e::es,p::l,i,h=>by
  rw[aM,aM,List.cons.injEq]at h;obtain⟨b,g⟩:=h;have d:e.key=ab p.1:=(Prod.mk.inj b).1;have n:e.val=f p.2:=(Prod.mk.inj b).2;have ih:=Fk k es l (i+1) g;by_cases a:p.1=k
  ·have c:(k==p.1)=true:=by simp[a]
   simp[Instr.findNow,Instr.sameNow,d,n,a,List.findIdx?_cons,cU]
  ·have c:(k==p.1)=false:=by simpa using λe=>a e.symm
   have m:(p.1==k)=false:=by simpa using a
   rw[Instr.findNow,d];simp only[Instr.sameNow,cF,c];rw[ih];simp only[List.findIdx?_cons,cU,jC,m];congr 1;cases List.findIdx? (λp=>p.1==k) l with
   | none=>rfl
   | some j=>simp;omega
theorem ns{w:World}{es:Array MapEntry}{l:List (Int×α)}(k:Int)(b:es.toList.map (λe=>(e.key,e.val))=l.map λp=>(ab p.1,f p.2)):(Instr.findKey 3 (ab k) es.toList).run Tryz.prog w=.ok ((l.findIdx? (λp=>p.1==k)).map λj=>(j,((cU l k).map f).getD undef)) w:=by
 have c:=underlying3;have a:=Fk k es.toList l 0 b;simp only[dc]at a;simp[Instr.findKey,cr c,Result.andThen,a]
theorem kY(w:World)(em:Bool)(k:Int):(Instr.checkKey em 10000 3 (ab k)).run Tryz.prog w=.ok () w:=by
 have a:=underlying3;unfold Instr.checkKey;simp[cr a,Result.andThen]
theorem zr{l:List (Int×α)}{k:Int}(a:cU l k=none):l.findIdx? (λp=>p.1==k)=none:=by
 unfold cU at a;rw[pr];intro p b;rw[Option.map_eq_none_iff,pq]at a;simpa using a p b
theorem MI{l:List (Int×α)}{k:Int}{b:α}(a:cU l k=some b):∃j,l.findIdx? (λp=>p.1==k)=some j:=by
 cases e:l.findIdx? (λp=>p.1==k)with
 | some j=>exact⟨j,rfl⟩
 | none=>
  unfold cU at a;rw[pr]at e;have:l.find? (λp=>p.1==k)=none:=pq.2 λp c=>by simpa using e p c
  rw[this]at a;cases a
variable {w:World} {mb mt et:Nat} {l:List (Int×α)}
theorem wE.look(i:wE f w mb l)(h:Tryz.prog.underlying mt=some (.map 3 et)){e:Value}(n:(zeroValue et).run Tryz.prog w=.ok e w)(k:Int)(c:Bool):(cU l k=none->(Instr.lookup mt (.map (some mb)) (ab k) c).run Tryz.prog w=.ok (if c then .tuple #[e,.bool false]else e) w)/\ ∀b,cU l k=some b->(Instr.lookup mt (.map (some mb)) (ab k) c).run Tryz.prog w=.ok (if c then .tuple #[f b,.bool true]else f b) w:=by
 obtain⟨es,o,g,j,_⟩:=i;have d:=ns (w:=w) k j;refine⟨λa=>?_,λb a=>?_⟩
 ·rw[zr a]at d;simp[Instr.lookup,cr h,kK g,kY,d,Result.andThen,n]
 ·obtain⟨p,m⟩:=MI a;rw[m]at d;simp[Instr.lookup,cr h,kK g,kY,d,Result.andThen,a]
theorem wE.put(m:wE f w mb l)(o:Tryz.prog.underlying mt=some (.map 3 et)){k:Int}(i:cU l k=none)(b:α):∃w',(Instr.mapUpdate mt (.map (some mb)) (ab k) (f b)).run Tryz.prog w=.ok () w'/\wE f w' mb (l++ [(k,b)])/\br (λq=>q=mb) w w'/\w'.heap.size=w.heap.size:=by
 obtain⟨es,u,a,e,n⟩:=m;have h:=ns (w:=w) k e;rw[zr i]at h;refine⟨_,by simp[Instr.mapUpdate,cr o,kK a,kY,h,MapKept.run_setObj_map _ a,Result.andThen];rfl,⟨_,_,(heap_set a).1,?_,stamped_push n λg s j=>?_⟩,?_,?_⟩
 ·simp[e]
 ·have t:(g.key,g.val)∈l.map λc=>(Value.int .i64 c.1,f c.2):=e▸cC.2 ⟨g,s,rfl⟩;obtain⟨c,p,d⟩:=cC.1 t;rw[j]at d;have:=pr.1 (zr i) c p;simp at d;simp[d.1]at this
 ·exact⟨rfl,rfl,rfl,by simp,λq _ r=>(heap_set a).2 q r⟩
 ·simp
theorem Bo{α a:Type}(f:α->a)(l:List α)(i:Nat):(l.map f).eraseIdx i=(l.eraseIdx i).map f:=by
 simp[sR,List.map_take,List.map_drop]
theorem wE.del(m:wE f w mb l)(j:Tryz.prog.underlying mt=some (.map 3 et))(k:Int):∃w',(∀ty,(Builtin.delete_ #[mt,3] ty #[.map (some mb),ab k]).run Tryz.prog w=.ok (.tuple #[]) w')/\wE f w' mb (l.eraseP λp=>p.1==k)/\br (λq=>q=mb) w w'/\w'.heap.size=w.heap.size:=by
 obtain⟨es,h,a,b,i⟩:=m;have c:=ns (w:=w) k b;cases e:l.findIdx? (λp=>p.1==k)with
 | none=>
  rw[e]at c;refine⟨{w with heap:=w.heap.setIfInBounds mb (.map es h)},λty=>by simp[Builtin.delete_,cr j,kK a,kY,c,MapKept.run_setObj_map _ a,Result.andThen],⟨_,_,(heap_set a).1,?_,i⟩,?_,?_⟩
  ·rw[List.eraseP_of_forall_not λp r=>by have:=pr.1 e p r;rw[this];decide];exact b
  ·exact⟨rfl,rfl,rfl,by simp,λq _ d=>(heap_set a).2 q d⟩
  ·simp
 | some g=>
  rw[e]at c;refine⟨{w with heap:=w.heap.setIfInBounds mb (.map (es.eraseIdxIfInBounds g) h)},λty=>by simp[Builtin.delete_,cr j,kK a,kY,c,MapKept.run_setObj_map _ a,Result.andThen],⟨_,_,(heap_set a).1,?_,stamped_erase i g⟩,?_,?_⟩
  ·have o:g<es.size:=by
     have s:=(List.findIdx?_eq_some_iff_getElem.1 e).1;have n:=congrArg List.length b;simp at n;omega
   rw[List.eraseP_eq_eraseIdx,e];simp only[Array.eraseIdxIfInBounds,o,dite_true,Array.toList_eraseIdx];rw[<-Bo,<-Bo,b]
  ·exact⟨rfl,rfl,rfl,by simp,λq _ d=>(heap_set a).2 q d⟩
  ·simp
theorem wE.len(a:wE f w mb l)(e:Tryz.prog.underlying mt=some (.map 3 et))(ty:TypeId):(Builtin.len_ #[mt] ty #[.map (some mb)]).run Tryz.prog w=.ok (ab l.length) w:=by
 obtain⟨es,g,b,c,_⟩:=a;have d:es.size=l.length:=by
  have:=congrArg List.length c;simpa using this
 simp[Builtin.len_,cr e,kK b,Result.andThen,d];unfold goInt
 go_num
theorem wE.kept{w':World}(b:wE f w mb l)(e:w'.heap[mb]?=w.heap[mb]?):wE f w' mb l:=by
 obtain⟨es,a,c,d⟩:=b;exact⟨es,a,e.trans c,d⟩
theorem wE.new(w:World):wE f (w.alloc (.map #[] 0)) w.heap.size []:=⟨#[],0,aE _ _,rfl,stamped_empty 0⟩
end
abbrev IM(w:World)(a:Nat)(l:List (Int×Nat)):Prop:=wE Ax w a l
theorem IM.look{w:World}{a:Nat}{l:List (Int×Nat)}(d:IM w a l)(k:Int)(c:Bool):(cU l k=none->(Instr.lookup 86 (.map (some a)) (ab k) c).run Tryz.prog w=.ok (if c then .tuple #[.pointer none,.bool false]else .pointer none) w)/\ ∀b,cU l k=some b->(Instr.lookup 86 (.map (some a)) (ab k) c).run Tryz.prog w=.ok (if c then .tuple #[Ax b,.bool true]else Ax b) w:=
 wE.look d underlying86 (by kernel_rfl) k c
theorem Dt(w:World)(k:Int)(c:Bool):(Instr.lookup 86 (.map none) (ab k) c).run Tryz.prog w=.ok (if c then .tuple #[.pointer none,.bool false]else .pointer none) w:=by
 have b:=underlying86;have d:(zeroValue 97).run Tryz.prog w=.ok (.pointer none) w:=by kernel_rfl
 have a:=ns (f:=Ax) (w:=w) (es:= #[]) (l:=[]) k rfl;simp[Instr.lookup,cr b,kY,a,Result.andThen,d]
structure kQ where
 lo:Nat
 b:Nat
 room:Int
 n:Nat
 prog:List (Bh (n+1))
 pa:Option Addr
 pc:Nat
structure fY where
 ow:Nat->Int
 po:Option Nat
 l:List (Int×Nat)
 wo:Option Nat
 wn:Nat
 f:Int×Int->List Tc
 sl:Int×Int->Value
 bo:Option Nat
 bn:Nat
 ev:Value
 es:List (ByteArray×Int×Int×Tc)
 k:Nat
def dW(p:kQ)(s:Sy)(d:fY):Array Value:= #[ae p.pa p.prog.length p.pc,ab p.room,ab s.last,.map d.po,.map d.wo,.map d.bo,d.ev]
def Ay(p:kQ)(s:Sy)(d:fY):BL:=⟨p.b,4,dW p s d,94⟩
def NS(p:kQ)(s:Sy)(d:fY):BL:=⟨p.b,5,dW p s d,94⟩
def I7(e:ByteArray×Int×Int×Tc):List Value:=[af e.1,ab e.2.1,ab e.2.2.1,ab e.2.2.2.1.1,ab e.2.2.2.1.2.1,af e.2.2.2.1.2.2,ae e.2.2.2.2.1.1 e.2.2.2.2.2.length e.2.2.2.2.1.2]
def wH(t:Tc):Prop:=bv 13 t=0\/(t.1=(0,0,⟨#[]⟩)/\t.2.2=[])
structure bj (p:kQ) (s:Sy) (d:fY) (w:World):Prop where
 low:∀b,d.ow b≠0->p.lo<=b/\b<w.heap.size
 box:w.heap[p.b]?=some (.cells (dW p s d) 94)
 own:d.ow p.b=-5
 pg:(fR (p.n+1) w.heap.size w p.pa p.prog/\tD (jQ (p.n+1) λb=>d.ow b=-4) (λb=>d.ow b=-4) p.pa p.prog)/\(p.prog.length<=p.pc/\p.pc<=maxLen/\ki p.n p.prog=0/\(ax (p.n+6) (bK p.n p.prog)).length<=2097152)
 pm:(d.po=none/\d.l=[])\/∃mb,d.po=some mb/\d.ow mb=-5/\mb≠p.b/\IM w mb d.l
 keys:d.l.map (·.1)=s.ps.map (·.1)/\(s.ps.map (·.1)).Nodup/\(∀q∈s.ps,1<=q.1/\q.1<=s.last)/\0<=s.last/\s.last<=90/\s.ps.length<=12
 ps:∀k b,cU d.l k=some b->∃nm cs cms,s.get k=some (nm,cs,cms)/\P1 p.lo b nm p.room cs cms (d.k+201) (λq=>d.ow q=k) w/\cms.length<=20
 wy:g8 p.lo (Ay p s d) d.wo d.wn 13 d.f d.sl w/\(∀b,rU (Ay p s d) d.wo d.sl b->b=p.b\/d.ow b=-1)/\(∀k,(d.f k).map (cn 13)=s.ways k)/\(∀k,(d.f k).length<=20)/\∀k,∀y∈d.f k,bv 13 y=0/\aK 13 y=true/\In w.heap.size w 13 y/\cd (λb=>d.ow b=-1/\¬rU (Ay p s d) d.wo d.sl b) 13 y
 bd:eL p.lo (NS p s d) d.bo d.bn s.bonds w/\AB s.bonds/\∀b,d.bo=some b->d.ow b=-2
 evr:w.ownsRow p.lo 82 7 d.ev d.es.length (d.es.flatMap I7)/\∀b,d.ev.ownBlock=some b->d.ow b=-3
 evt:d.es.map (λe=>(e.1,e.2.1,e.2.2.1,cn 13 e.2.2.2))=s.evs/\∀e∈d.es,(In w.heap.size w 13 e.2.2.2/\cd (λb=>d.ow b=-3/\d.ev.ownBlock≠some b) 13 e.2.2.2)/\wH e.2.2.2
theorem eP{S D:Nat->Prop}{w w':World}(c:br S w w')(e:∀b,D b->¬S b){n:Nat}{x:Tm n}(a:In w.heap.size w n x/\cd D n x):In w'.heap.size w' n x/\cd D n x:=
 ⟨(In.off (P:=λb=>D b/\b<w.heap.size) (λb d=>c.block b d.2 (e b d.1)) (In.offB a.2 a.1) a.1).mono c.size,a.2⟩
theorem GH{l:List (Int×Nat)}{k:Int}{b:Nat}(a:cU l k=some b):(k,b)∈l:=by
 unfold cU at a;cases c:l.find? (λe=>e.1==k)with
 | none=>rw[c]at a;cases a
 | some e=>
  rw[c]at a;have f:=List.mem_of_find?_eq_some c;have d:=List.find?_some c;simp at a d;subst a d;exact f
theorem bj.key{p:kQ}{s:Sy}{d:fY}{w:World}(a:bj p s d w){k:Int}{b:Nat}(e:cU d.l k=some b):1<=k/\k<=s.last:=by
 have c:k∈d.l.map (·.1):=cC.2 ⟨_,GH e,rfl⟩;rw[a.keys.1]at c;obtain⟨g,f,rfl⟩:=cC.1 c;exact a.keys.2.2.1 g f
theorem g8.turn{base:Nat}{p e:BL}{d:Option Nat}{n N:Nat}{f:Int×Int->List (Tm N)}{sl:Int×Int->Value}{w w':World}(c:g8 base p d n N f sl w){S:Nat->Prop}(o:br S w w')(l:∀b,rU p d sl b->b≠p.b->¬S b)(q:e.b=p.b)(j:tB e d w'):g8 base e d n N f sl w':=by
 refine⟨by rw[q];exact c.1,j,?_⟩;rcases c.2.2 with a|⟨r,rfl,m⟩
 ·exact ah a
 ·refine ai ⟨r,rfl,m.kee o λb g=>l b (Fh g) λa=>?_⟩;rcases g with rfl|⟨k,h,i⟩
  ·exact wv c a.symm
  ·exact Au c h (by rw[i,a])
theorem eL.turn{base:Nat}{p c:BL}{a:Option Nat}{n:Nat}{g:Int×Int->Bool}{w w':World}(d:eL base p a n g w){S:Nat->Prop}(j:br S w w')(i:∀b:Nat,a=Option.some b->¬S b)(k:c.b=p.b)(h:tB c a w'):eL base c a n g w':=by
 refine⟨by rw[k];exact d.1,h,?_⟩;rcases d.2.2 with f|⟨e,rfl,l⟩
 ·exact ah f
 ·exact ai ⟨e,rfl,l.kee j (i e rfl)⟩
section
variable {p:kQ} {s:Sy} {d:fY} {w w':World} {ow:Nat->Int} {S:Nat->Prop}
theorem bj.pgK(e:bj p s d w)(f:br S w w')(g:∀b,d.ow b=-4->¬S b)(h:∀b,d.ow b≠0->ow b=d.ow b):fR (p.n+1) w'.heap.size w' p.pa p.prog/\tD (jQ (p.n+1) λb=>ow b=-4) (λb=>ow b=-4) p.pa p.prog:=by
 have c:=cq (dP (p.n+1)) 2 (oI (p.n+1)) p.pa;exact⟨c.2.2.2.1 _ _ _ _ f.size (c.2.2.1 _ _ _ w' _ (λb a=>f.block b a.2 (g b a.1)) (c.2.1 _ _ _ _ e.pg.1.2 e.pg.1.1) e.pg.1.1),c.1 _ _ _ (λb a=>(h b (by rw[a];decide)).trans a) e.pg.1.2⟩
theorem bj.pmK(f:bj p s d w)(k:br S w w')(j:∀b,d.ow b=-5->b≠p.b->¬S b)(m:∀b,d.ow b≠0->ow b=d.ow b):(d.po=none/\d.l=[])\/∃a,d.po=some a/\ow a=-5/\a≠p.b/\IM w' a d.l:=by
 rcases f.pm with g|⟨a,h,c,e,i⟩
 ·exact ah g
 ·exact ai ⟨a,h,(m a (by rw[c];decide)).trans c,e,i.kept (k.block a (f.low a (by rw[c];decide)).2 (j a c e))⟩
theorem bj.psK(f:bj p s d w)(c:br S w w'){k:Int}{b j:Nat}(o:d.k<=j)(n:∀b,d.ow b=k->¬S b)(t:∀b,d.ow b≠0->ow b=d.ow b)(r:∀b,ow b≠0->p.lo<=b/\b<w'.heap.size)(g:cU d.l k=some b):∃nm cs a,s.get k=some (nm,cs,a)/\P1 p.lo b nm p.room cs a (j+201) (λq=>ow q=k) w'/\a.length<=20:=by
 obtain⟨nm,cs,a,h,i,m⟩:=f.ps k b g;have u:=(f.key g).1;exact⟨nm,cs,a,h,(i.kept (S:=S) ⟨c.os,c.tape,c.output,c.size,c.block⟩ n).mono (λb e=>(t b (by rw[e];omega)).trans e) (Nat.add_le_add_right o 201) λb e=>r b (by rw[e];omega),m⟩
theorem bj.wyK(e:bj p s d w)(j:br S w w')(i:∀b,d.ow b=-1->¬S b)(l:∀b,d.ow b≠0->ow b=d.ow b){q:BL}(m:q.b=p.b)(o:tB q d.wo w'):g8 p.lo q d.wo d.wn 13 d.f d.sl w'/\(∀b,rU q d.wo d.sl b->b=p.b\/ow b=-1)/\∀k,∀y∈d.f k,bv 13 y=0/\aK 13 y=true/\In w'.heap.size w' 13 y/\cd (λb=>ow b=-1/\¬rU q d.wo d.sl b) 13 y:=by
 have h:∀b,rU q d.wo d.sl b ↔ rU (Ay p s d) d.wo d.sl b:=λb=>by
  unfold rU;rw[m];exact Iff.rfl
 refine⟨e.wy.1.turn j (λb c r=>?_) m o,λb c=>(e.wy.2.1 b ((h b).1 c)).imp id λa=>(l b (by rw[a];decide)).trans a,λk y t=>?_⟩
 ·rcases e.wy.2.1 b c with a|a
  ·exact absurd a r
  ·exact i b a
 ·obtain⟨y1,y2,u⟩:=e.wy.2.2.2.2 k y t;have n:=eP j (λb q=>i b q.1) u;exact⟨y1,y2,n.1,n.2.mono λb g=>⟨(l b (by rw[g.1];decide)).trans g.1,λc=>g.2 ((h b).1 c)⟩⟩
theorem bj.bdK(a:bj p s d w)(g:br S w w')(f:∀b,d.ow b=-2->¬S b)(h:∀b,d.ow b≠0->ow b=d.ow b){q:BL}(i:q.b=p.b)(e:tB q d.bo w'):eL p.lo q d.bo d.bn s.bonds w'/\AB s.bonds/\∀b,d.bo=some b->ow b=-2:=
 ⟨a.bd.1.turn g (λb c=>f b (a.bd.2.2 b c)) i e,a.bd.2.1,λb c=>(h b (by rw[a.bd.2.2 b c];decide)).trans (a.bd.2.2 b c)⟩
theorem bj.evK(c:bj p s d w)(h:br S w w')(f:∀b,d.ow b=-3->¬S b)(i:∀b,d.ow b≠0->ow b=d.ow b):(w'.ownsRow p.lo 82 7 d.ev d.es.length (d.es.flatMap I7)/\∀b,d.ev.ownBlock=some b->ow b=-3)/\∀e∈d.es,(In w'.heap.size w' 13 e.2.2.2/\cd (λb=>ow b=-3/\d.ev.ownBlock≠some b) 13 e.2.2.2)/\wH e.2.2.2:=by
 refine⟨⟨bi c.evr.1 h λb a=>f b (c.evr.2 b a),λb a=>(i b (by rw[c.evr.2 b a];decide)).trans (c.evr.2 b a)⟩,λe g=>⟨?_,(c.evt.2 e g).2⟩⟩;have j:=eP h (λb a=>f b a.1) (c.evt.2 e g).1;exact⟨j.1,j.2.mono λb a=>⟨(i b (by rw[a.1];decide)).trans a.1,a.2⟩⟩
theorem qz{d:fY}{w:World}(a:w.heap[p.b]?=some (.cells (dW p s d) 94)):tB (Ay p s d) d.wo w/\tB (NS p s d) d.bo w:=by
 refine⟨⟨⟨by simp[Ay,dW],by simp[Ay]⟩,?_⟩,⟨⟨by simp[NS,dW],by simp[NS]⟩,?_⟩⟩
 ·simp[Ay,dW,a]
 ·simp[NS,dW,a]
theorem bj.kept(a:bj p s d w)(c:br S w w')(n:∀b,S b->d.ow b=0):bj p s d w':=by
 have j:∀b,d.ow b≠0->¬S b:=λb e r=>e (n b r);have f:∀b,d.ow b≠0->d.ow b=d.ow b:=λ_ _=>rfl;have h:w'.heap[p.b]?=some (.cells (dW p s d) 94):=(c.block p.b (aF.1 a.box).1 (j p.b (by rw[a.own];decide))).trans a.box;have i:∀b,d.ow b≠0->p.lo<=b/\b<w'.heap.size:=λb e=>⟨(a.low b e).1,aR (a.low b e).2 c.size⟩;have t:∀{t:Int},t≠0->∀b,d.ow b=t->¬S b:=λo b g=>j b (by rw[g];exact o);obtain⟨y1,y2,q⟩:=a.wyK c (t (by decide)) f rfl (qz h).1;obtain⟨l,m⟩:=a.evK c (t (by decide)) f;exact⟨i,h,a.own,⟨a.pgK c (t (by decide)) f,a.pg.2⟩,a.pmK c (λb g _=>t (by decide) b g) f,a.keys,λk b e=>a.psK c (ak _) (t (by have:=(a.key e).1;omega)) f i e,⟨y1,y2,a.wy.2.2.1,a.wy.2.2.2.1,q⟩,a.bdK c (t (by decide)) f rfl (qz h).2,l,a.evt.1,m⟩
theorem bj.later(a:bj p s d w)(b:aj w w'):bj p s d w':=a.kept (aJ b λ_=>False) λ_ q=>q.elim
end
def Pf(f g:Int)(h:ByteArray)(xa:Option Addr)(i xc:Nat)(t:Tc)(w:World):Prop:=
 ∀b,aj w b->am 24 #[.agg #[ab f,ab g,af h,ae xa i xc]] b λd c=>∃y0 y1 y2 ya yl yc,d=.returned (.agg #[ab y0,ab y1,af y2,ae ya yl yc])/\Hid (aj b c/\∃a:Tc,(a.1=(y0,y1,y2)/\a.2.1=(ya,yc)/\a.2.2.length=yl)/\(In c.heap.size c 13 a/\cd (λe=>b.heap.size<=e) 13 a)/\cn 13 a=t/\wH a)
theorem kp{m:Nat}{x:Tm (m+1)}{w:World}(n:In w.heap.size w (m+1) x)(g:bv (m+1) x=0):Pf x.1.1 x.1.2.1 x.1.2.2 x.2.1.1 x.2.2.length x.2.1.2 (cn (m+1) x) w:=λW f=>by
 have l:aD ⟨m+1,x⟩:=aL.2 (bC.1 g).1;refine(ie (m+1) x W.heap.size W ((n.below f).mono f.size) (ak _) l).mono ?_;rintro e w' ⟨y,rfl,H⟩;obtain⟨i,j,k,d⟩:=H;have a:bv (m+1) y=0:=(bJ d).trans g;have c:aD ⟨m+1,y⟩:=aL.2 (bC.1 a).1;have b:fA (m+1) y<13:=by have:=(bC.1 a).2.1;omega
 have h:=ju 13 (m+1) y c b;refine⟨y.1.1,y.1.2.1,y.1.2.2,y.2.1.1,y.2.2.length,y.2.1.2,rfl,i,aS 13 (m+1) y,⟨rfl,rfl,by simp[aS]⟩,⟨sD 13 (m+1) y _ _ c b j,uc 13 (m+1) y _ c b k⟩,(ic h).trans (ic d),ah ((bJ h).trans a)⟩
theorem JF(w:World):Pf 0 0 ⟨#[]⟩ none 0 0 tz w:=λW h=>by
 refine(sj 12 0 0 ⟨#[]⟩ none 0 0 [] W (by decide) λw1 c=>?_).mono ?_
 ·refine(lC none 0 w1).mono ?_;rintro e w' ⟨rfl,rfl⟩;exact⟨none,0,[],rfl,ap _ _,rfl,ak _,aI _,rfl,ah rfl⟩
 ·rintro e w' ⟨a,b,l,rfl,H⟩;obtain⟨c,d,g,f,_⟩:=H;obtain rfl:l=[]:=bF d;exact⟨0,0,⟨#[]⟩,a,0,b,rfl,c,((0,0,⟨#[]⟩),(a,b),[]),⟨rfl,rfl,rfl⟩,⟨⟨⟨show dt 0 by unfold dt;decide,show dt 0 by unfold dt;decide,show (0:Nat)<=maxLen from aI _,aI _,f⟩,ah rfl⟩,ah rfl⟩,rfl,ai ⟨rfl,rfl⟩⟩
def Fy(d:fY)(w w':World)(t:Int)(q:Nat):Int:=if w.heap.size<=q/\q<w'.heap.size then t else d.ow q
theorem uf{p:kQ}{s:Sy}{d:fY}{w w':World}{t:Int}(a:bj p s d w)(e:w.heap.size<=w'.heap.size)(c:p.lo<=w.heap.size):∀b,Fy d w w' t b≠0->p.lo<=b/\b<w'.heap.size:=λb q=>by
 unfold Fy at q;split at q
 ·omega
 ·have:=a.low b q;omega
theorem uh{p:kQ}{s:Sy}{d:fY}{w w':World}{t:Int}(a:bj p s d w):∀b,d.ow b≠0->Fy d w w' t b=d.ow b:=λb q=>by
 have:=(a.low b q).2;exact if_neg (by omega)
theorem bj.lo{p:kQ}{s:Sy}{d:fY}{w:World}(a:bj p s d w):p.lo<=w.heap.size/\p.b<w.heap.size:=by
 have:=a.low p.b (by rw[a.own];decide);omega
def yK(p:kQ)(s:Sy)(d:fY)(wt:ByteArray)(a b:Int)(t:Tc)(w w':World):Prop:=
 ∃e f,bj p (s.tell wt a b t) {d with ow:=Fy d w w' (-3),ev:=e,es:=d.es++ [(wt,a,b,f)]} w'/\br (λc=>c=p.b\/d.ow c=-3) w w'
theorem bj.tell{p:kQ}{s:Sy}{d:fY}{w:World}(g:bj p s d w)(wt:ByteArray)(a b V W:Int)(X:ByteArray)(xa:Option Addr)(Y xc:Nat)(t:Tc)(aE:Pf V W X xa Y xc t w)(aD:d.es.length<=100000):am 68 #[aB p.b,af wt,ab a,ab b,.agg #[ab V,ab W,af X,ae xa Y xc]] w λe w'=>e=.returned (.tuple #[])/\Hid (yK p s d wt a b t w w'):=by
 obtain⟨aa,ap⟩:=g.lo;obtain⟨y,z,m⟩:∃y z,d.ev=ae y d.es.length z:=by
  rcases g.evr.1.2 with⟨e,aA⟩|⟨i,c,aR,e,_⟩
  ·exact⟨none,0,by rw[e,aA]⟩
  ·exact⟨_,c,e⟩
 have O:=g.box;have I:d.ev.ownBlock≠some p.b:=λe=>by
  have u:=g.evr.2 _ e;rw[g.own]at u;cases u
 have ao:=g.evr.1;rw[m]at ao I;refine(En p.lo p.b wt a b V W X xa Y xc y d.es.length z _ (λK w' y0 y1 y2 ya yl yc=>∃l:Tc,(l.1=(y0,y1,y2)/\l.2.1=(ya,yc)/\l.2.2.length=yl)/\(In w'.heap.size w' 13 l/\cd (λf=>K.heap.size<=f) 13 l)/\cn 13 l=t/\wH l) w aD ap aa ⟨?_,by simp[World.frozen?,O]⟩ ao I aE).mono ?_
 ·have u:=ag O 6;simp only[dW,cP,cZ]at u;rw[m]at u;exact u
 rintro e w' ⟨rfl,au⟩;obtain⟨i,c,q,x,K,L,y0,y1,y2,ya,yl,yc,R,aN,⟨l,⟨M,N,aC⟩,Q,aF,aI⟩,S,aq,J⟩:=au;have H:aj w L:=R.trans (aN.mono R.size);have P:br (λaQ=>(Value.slice y d.es.length z).ownBlock=some aQ) w q:=(aJ H _).trans S λ_ _ e=>e;have o:br (λf=>f=p.b\/d.ow f=-3) w w':=by
  rw[x];refine(P.mono (T:=λf=>f=p.b\/d.ow f=-3) λf _ e=>ai (g.evr.2 f (by rw[m];exact e))).trans (bD q p.b 6 _) λf _ e=>ah e
 have aL:=o.size;have aU:w'.heap.size=q.heap.size:=by rw[x];simp[World.setCell]
 have Z:w'.heap[p.b]?=some (.cells (dW p (s.tell wt a b t) {d with ow:=Fy d w w' (-3),ev:=ae (some ⟨i,0,none⟩) (d.es.length+1) c,es:=d.es++ [(wt,a,b,l)]}) 94):=by
  have v:q.heap[p.b]?=some (.cells (dW p s d) 94):=(P.block p.b ap I).trans O;rw[x];simp[World.setCell,bN,v,dW,Sy.tell]
 have ad:=uf (t:=-3) g aL aa;have n:=uh (w':=w') (t:=-3) g;have G:∀{U:Int},U≠ -3->U≠ -5->∀f,d.ow f=U->¬(f=p.b\/d.ow f=-3):=λF v f e h=>by
  rcases h with rfl|h
  ·rw[g.own]at e;exact v e.symm
  ·exact F (e.symm.trans h)
 have an:∀f,w.heap.size<=f->f<w'.heap.size->Fy d w w' (-3) f=-3:=λf av ax=>if_pos ⟨av,ax⟩;obtain⟨ay,az⟩:=qz Z;obtain⟨E,j,r⟩:=g.wyK o (G (by decide) (by decide)) n rfl ay;refine⟨rfl,ae (some ⟨i,0,none⟩) (d.es.length+1) c,l,⟨ad,Z,(n p.b (by rw[g.own];decide)).trans g.own,⟨g.pgK o (G (by decide) (by decide)) n,g.pg.2⟩,g.pmK o (λf M N h=>?_) n,g.keys,λk b f=>g.psK o (ak _) (G (by have:=(g.key f).1;omega) (by have:=(g.key f).1;omega)) n ad f,⟨E,j,g.wy.2.2.1,g.wy.2.2.2.1,r⟩,g.bdK o (G (by decide) (by decide)) n rfl az,⟨?_,λf e=>?_⟩,?_,λe A=>?_⟩,o⟩
 ·rcases h with h|h
  ·exact N h
  ·rw[M]at h;cases h
 ·have e:[(wt,a,b,l)].flatMap I7=[af wt,ab a,ab b,ab y0,ab y1,af y2,ae ya yl yc]:=by simp[I7,M,N,aC]
  have v:w'.ownsRow p.lo 82 7 (ae (some ⟨i,0,none⟩) (d.es.length+1) c) (d.es.length+1) (d.es.flatMap I7++ [(wt,a,b,l)].flatMap I7):=by
   rw[e,x];refine bi aq (bD q p.b 6 _) λf aK h=>?_;have:i=f:=aw aK;subst this h;rcases J with h|h
   ·exact I h
   ·have:=H.size;omega
  rw[<-kG]at v;simpa using v
 ·have B:i=f:=aw e;subst B;rcases J with h|h
  ·have F:=g.evr.2 i (by rw[m];exact h);exact(n i (by rw[F];decide)).trans F
  ·have:=H.size;have:=(aq.lt i rfl).2;exact an i (by omega) (by omega)
 ·show _=s.evs++ [(wt,a,b,t)];rw[fP,g.evt.1,aM,b8,aF]
 ·have aH:br (λf=>f=p.b\/d.ev.ownBlock=some f) w w':=by
    rw[x,m];exact(P.mono (T:=λf=>f=p.b\/(Value.slice y d.es.length z).ownBlock=some f) λf _ e=>ai e).trans (bD q p.b 6 _) λf _ e=>ah e
  have aG:br (λf=>f=p.b\/d.ev.ownBlock=some f) L w':=by
   rw[x,m];exact(S.mono (T:=λf=>f=p.b\/(Value.slice y d.es.length z).ownBlock=some f) λf _ e=>ai e).trans (bD q p.b 6 _) λf _ e=>ah e
  have aT:=H.size;rcases dp.1 A with A|A
  ·obtain⟨⟨ar,aO⟩,aP⟩:=g.evt.2 e A;refine⟨?_,aP⟩;have C:=eP aH (D:=λf=>(d.ow f=-3/\d.ev.ownBlock≠some f)/\f<w.heap.size) (λf E j=>?_) ⟨ar,In.offB aO ar⟩
   ·refine⟨C.1,C.2.mono λf h=>⟨(n f (by rw[h.1.1];decide)).trans h.1.1,λj=>?_⟩⟩;have B:i=f:=aw j;subst B;rcases J with r|r
    ·exact h.1.2 (by rw[m];exact r)
    ·omega
   ·rcases j with rfl|j
    ·have:=E.1.1;rw[g.own]at this;cases this
    ·exact E.1.2 j
  ·obtain rfl:=eF.1 A;refine⟨?_,aI⟩;have aS:=R.size;have al:∀f,d.ev.ownBlock=some f->f<w.heap.size:=λf h=>(g.evr.1.lt f h).2;have C:=eP aG (D:=λf=>K.heap.size<=f/\f<L.heap.size) (λf E j=>?_) ⟨Q.1,In.offB Q.2 Q.1⟩
   ·have:=S.size;refine⟨C.1,C.2.mono λf h=>⟨an f (by omega) (by omega),λj=>?_⟩⟩;have B:i=f:=aw j;subst B;rcases J with r|r
    ·have:=al i (by rw[m];exact r);omega
    ·omega
   ·rcases j with rfl|j
    ·omega
    ·have:=al f j;omega
theorem Qg{w:World}{q:Nat}{a b c d:Value}{T:TypeId}{fr:Nat×Nat}(e:w.heap[q]?=some (.cells #[a,b,c,d] T fr)):w.cell? ⟨q,0,none⟩=some a/\w.cell? ⟨q,1,none⟩=some b/\w.cell? ⟨q,2,none⟩=some c/\w.cell? ⟨q,3,none⟩=some d:=by simp[World.cell?,e]
theorem GG{l:List (Int×Nat)}{ps:List (Int×ByteArray×Tc×List Tc)}(k:Int)(a:l.map (·.1)=ps.map (·.1)):(cU l k).isSome=((ps.find? λp=>p.1==k).map (·.2)).isSome:=by
 induction l generalizing ps with
 | nil=>
  cases ps with
  | nil=>rfl
  | cons b ps=>simp at a
 | cons c l ih=>
  cases ps with
  | nil=>simp at a
  | cons b ps=>
   simp only[aM,List.cons.injEq]at a;have ih:=ih a.2;unfold cU at ih ⊢;rw[jC,jC,a.1];cases b.1==k
   ·exact ih
   ·rfl
section
variable {p:kQ} {s:Sy} {d:fY} {w:World}
theorem bj.alive(a:bj p s d w)(k:Int):(cU d.l k).isSome=(s.get k).isSome:=GG k a.keys.1
theorem bj.look(g:bj p s d w)(k:Int)(c:Bool):(Instr.lookup 86 (.map d.po) (ab k) c).run Tryz.prog w=.ok (if c then .tuple #[match cU d.l k with|some b=>Ax b|none=> .pointer none,.bool (cU d.l k).isSome]else match cU d.l k with|some b=>Ax b|none=> .pointer none) w:=by
 rcases g.pm with⟨a,f⟩|⟨j,a,_,_,f⟩
 ·rw[a,f];have:=Dt w k c;cases c<;>exact this
 ·rw[a];obtain⟨h,i⟩:=f.look k c;cases e:cU d.l k with
  | none=>
   rw[h e];cases c<;>rfl
  | some b=>
   rw[i b e];cases c<;>rfl
theorem bj.cells(c:bj p s d w):w.cell? ⟨p.b,0,none⟩=some (ae p.pa p.prog.length p.pc)/\w.cell? ⟨p.b,1,none⟩=some (ab p.room)/\w.cell? ⟨p.b,2,none⟩=some (ab s.last)/\w.cell? ⟨p.b,3,none⟩=some (.map d.po):=by
 have a:=c.box;exact⟨ag a 0,ag a 1,ag a 2,ag a 3⟩
theorem bj.isAlive(a:bj p s d w)(k:Int):am 73 #[aB p.b,ab k] w λe w'=>e=.returned (.bool (s.get k).isSome)/\w'=w:=by
 have i:=a.cells.2.2.2;have f:=a.look k true;rw[if_pos rfl]at f;have c:=a.alive k;obtain⟨h,g⟩:∃h,h=(s.get k).isSome:=⟨_,rfl⟩;rw[<-g]at c ⊢;rw[c]at f;generalize (match cU d.l k with|some b=>Ax b|none=> .pointer none)=m at f;clear c g;generalize d.po=j at*;clear a;go_enter func73,ntmps73;go_wp2_with fail
 go_ret
 exact⟨rfl,rfl⟩
theorem bj.len(c:bj p s d w)(ty:TypeId):(Builtin.len_ #[86] ty #[.map d.po]).run Tryz.prog w=.ok (ab s.ps.length) w:=by
 have e:d.l.length=s.ps.length:=by
  have:=congrArg List.length c.keys.1;simpa using this
 rcases c.pm with⟨a,b⟩|⟨f,a,_,_,b⟩
 ·rw[a,<-e,b];exact Maps.len_nil underlying86 ty
 ·rw[a,<-e];exact wE.len b underlying86 ty
theorem bj.mayHave(c:bj p s d w)(n:Nat)(r:n<=1000):am 38 #[aB p.b,ab n] w λe w'=>e=.returned (.bool (s.may n))/\w'=w:=by
 obtain⟨_,_,k,l⟩:=c.cells;have q:=c.len 3;obtain⟨_,_,_,t,u,v⟩:=c.keys;obtain⟨j,a⟩:∃j,j=s.may n:=⟨_,rfl⟩;rw[<-a];unfold Sy.may at a;generalize s.last=h at*;generalize s.ps.length=f at*;generalize d.po=x at*;clear c;have m:IntKind.i64.wrap ((f:Int)+n)=(f:Int)+n:=by rw[IntKind.wrap];simp[IntKind.bits,IntKind.signed];omega
 have o:IntKind.i64.wrap (h+n)=h+n:=by rw[IntKind.wrap];simp[IntKind.bits,IntKind.signed];omega
 go_enter func38,ntmps38;by_cases g:(f:Int)+n<=12
 ·by_cases i:h+n<=90
  ·rw[gX g,gX i]at a;subst a;go_wp2_with fail
   go_ret
   exact⟨rfl,rfl⟩
  ·rw[gX g,decide_eq_false i]at a;subst a;go_wp2_with fail
   go_ret
   exact⟨rfl,rfl⟩
 ·rw[decide_eq_false g]at a;subst a;go_wp2_with fail
  go_ret
  exact⟨rfl,rfl⟩
theorem DB(n:Nat)(nm:ByteArray)(l:List (Bh n))(q:Option Addr)(F len B r:Nat)(w:World)(J:l.length=len)(K:len<=9223372036854775807)(C:B<=w.heap.size)(_hsb:r<w.heap.size)(v:Hid (w.cell? ⟨r,0,none⟩=some (ae q len F)))(y:Hid (fR n B w q l)):am 39 #[aB r,af nm] w λe w'=>e=.returned (.bool (f9 n nm l).isSome)/\aj w w':=by
 have H:=v.out;go_enter func39,ntmps39;go_wp2_with fail;go_loopw [12] (λm wr=>∃a:Nat,a<=len/\m=ab a/\Hid (aj w wr/\f9 n nm l=f9 n nm (l.drop a))) (λm _=>len-(intOf m).toNat)
 case atStart=>exact⟨0,by omega,rfl,ap _ _,rfl⟩
 case round=>
 obtain⟨a,I,rfl,c⟩:=hrel;by_cases L:a<len
 ·obtain⟨b,d⟩:∃b,l[a]?=some b:=⟨l[a]'(by omega),aG _⟩;obtain⟨j,lo,rfl,E,x⟩:∃g o,q=some ⟨g,o,none⟩/\g<B/\Hid (∀(t:Nat)(f:Value),(oI n b)[t]?=some f->w.cell? ⟨g,o+a*2+t,none⟩=some f):=by
   rcases y with e|⟨g,o,e,D,A⟩
   ·rw[e]at d;simp at d
   ·exact⟨g,o,e,D,(A a _ d).1⟩
  have h:∀(t:Nat)(f:Value),(oI n b)[t]?=some f->wr.cell? ⟨j,lo+a*2+t,none⟩=some f:=λt f u=>(c.1.cell (p:=⟨j,lo+a*2+t,none⟩) (aR E C)).trans (x t f u);have G:wr.cell? ⟨j,lo+a*2,none⟩=some (af b.1):=h 0 _ rfl;have O:wr.cell? ⟨j,lo+a*2+1,none⟩=some (ae b.2.1.1 b.2.2.length b.2.1.2):=h 1 _ rfl;have M:(0:Int)<=(a:Int):=by omega
  have N:(a:Int)<(len:Int):=by omega
  have s:Hid (∀o,aj w (wr.alloc o)):=λo=>c.1.alloc c.1.size o;by_cases i:b.1=nm
  ·have k:Hid (f9 n nm l=some b):=by
     show _=_;rw[c.out.2,oJ n nm d,if_pos i]
   rw[i]at G;clear h c d;go_wp2_with fail
   go_ret
   exact⟨bS (by rw[k.out];rfl),s _⟩
  ·have k:Hid (f9 n nm l=f9 n nm (l.drop (a+1))):=by
     show _=_;rw[c.out.2,oJ n nm d,if_neg i]
   have u:(b.1.toList==nm.toList)=false:=by
    rw[iz];intro e;rw[bE,bE]at e;exact i (jc (Array.ext' e))
   clear h c d;go_wp2_with fail;go_roundw
   case rel=>exact⟨a+1,by omega,by go_num,s _,k⟩
   case measure=>simp[intOf];omega
 ·obtain rfl:a=len:=by omega
  have z:Hid (f9 n nm l=none):=by
   show _=_;rw[c.out.2,pn (by omega)];rfl
  have HB:=aq c.1;clear c;go_wp2_with fail
  go_ret
  exact⟨bS (by rw[z.out];rfl),HB⟩
theorem bj.knows(a:bj p s d w)(nm:ByteArray):am 39 #[aB p.b,af nm] w λe w'=>e=.returned (.bool (lf p.n p.prog nm))/\aj w w':=
 DB (p.n+1) nm p.prog p.pa p.pc p.prog.length w.heap.size p.b w rfl (az a.pg.2.1 a.pg.2.2.1) (ak _) a.lo.2 a.cells.1 a.pg.1.1
end
theorem oc{g:Type}{k j:Int}(d:j≠k):(l:List (Int×g))->(l.eraseP λp=>p.1==k).find? (λp=>p.1==j)=l.find? λp=>p.1==j
 | []=>rfl
 | a::l=>by
  rw[List.eraseP_cons];by_cases b:a.1=k
  ·have c:(a.1==k)=true:=by simpa using b
   have f:(a.1==j)=false:=by simp[b];exact λe=>d e.symm
   simp[c,f]
  ·have c:(a.1==k)=false:=by simpa using b
   simp only[c,cond_false,jC];rw[oc d l]
theorem xv{g:Type}{k:Int}:(l:List (Int×g))->(l.map (·.1)).Nodup->(l.eraseP λp=>p.1==k).find? (λp=>p.1==k)=none
 | [],_=>rfl
 | a::l,hn=>by
  rw[aM,mS]at hn;rw[List.eraseP_cons];by_cases b:a.1=k
  ·have c:(a.1==k)=true:=by simpa using b
   simp only[c,cond_true];refine pq.2 λf e=>?_;simp only[cm];intro d;exact hn.1 (cC.2 ⟨f,e,d.trans b.symm⟩)
  ·have c:(a.1==k)=false:=by simpa using b
   simp only[c,cond_false,jC];exact xv l hn.2
def dT(a:Nat)(d b:fY)(w w':World):Prop:=br (λq=>d.ow q<0) w w'/\(∀q,q<w.heap.size->b.ow q=d.ow q)/\b.k=d.k/\b.es.length<=d.es.length+a/\b.wn<=d.wn+a/\b.bn<=d.bn+a
theorem dT.trans{a b:Nat}{d d1 d2:fY}{w w1 w2:World}(i:dT a d d1 w w1)(k:dT b d1 d2 w1 w2):dT (a+b) d d2 w w2:=by
 obtain⟨g,h,j,o,p,q⟩:=i;obtain⟨l,m,n,s,t,u⟩:=k;have r:=g.size;exact⟨g.trans l λc e f=>by rw[h c e]at f;exact f,λc e=>(m c (by omega)).trans (h c e),n.trans j,by omega,by omega,by omega⟩
theorem dT.mono{a b:Nat}{d d1:fY}{w w1:World}(c:dT a d d1 w w1)(k:a<=b):dT b d d1 w w1:=by
 obtain⟨e,f,g,h,i,j⟩:=c;exact⟨e,f,g,by omega,by omega,by omega⟩
theorem dT.later(d:fY){w w1:World}(a:aj w w1):dT 0 d d w w1:=⟨aJ a _,λ_ _=>rfl,rfl,ak _,ak _,ak _⟩
theorem yK.up{p:kQ}{s:Sy}{d:fY}{wt:ByteArray}{a b:Int}{t:Tc}{w w':World}(f:bj p s d w)(k:yK p s d wt a b t w w'):∃e,bj p (s.tell wt a b t) e w'/\dT 1 d e w w':=by
 obtain⟨l,m,g,h⟩:=k;refine⟨_,g,h.mono λi _ c=>?_,λi j=>if_neg (by omega),rfl,by simp,fQ _,fQ _⟩;rcases c with c|c
 ·rw[c,f.own];decide
 ·rw[c];decide
section
variable {p:kQ} {s:Sy} {d:fY} {w:World}
theorem bj.del(a:bj p s d w)(k:Int):∃w',(∀ty,(Builtin.delete_ #[86,3] ty #[.map d.po,ab k]).run Tryz.prog w=.ok (.tuple #[]) w')/\bj p {s with ps:=s.ps.eraseP λq=>q.1==k} {d with l:=d.l.eraseP λq=>q.1==k} w'/\br (λq=>d.ow q=-5/\q≠p.b) w w':=by
 have J:(d.l.eraseP λq=>q.1==k).map (·.1)=(s.ps.eraseP λq=>q.1==k).map (·.1):=by
  have e:=congrArg (λl=>l.eraseP (λq=>q==k)) a.keys.1;simpa [List.eraseP_map,Function.comp_def]using e
 obtain⟨E,u,F,G,H,I⟩:=a.keys;have L:(d.l.map (·.1)).Nodup:=by rw[E];exact u
 have v:∀(w':World),br (λq=>d.ow q=-5/\q≠p.b) w w'->((d.po=none/\d.l.eraseP (λq=>q.1==k)=[])\/∃h,d.po=some h/\d.ow h=-5/\h≠p.b/\IM w' h (d.l.eraseP λq=>q.1==k))->bj p {s with ps:=s.ps.eraseP λq=>q.1==k} {d with l:=d.l.eraseP λq=>q.1==k} w':=λw' c M=>by
  have i:∀b,d.ow b≠0->d.ow b=d.ow b:=λ_ _=>rfl;have y:∀b,d.ow b≠0->p.lo<=b/\b<w'.heap.size:=λb q=>⟨(a.low b q).1,aR (a.low b q).2 c.size⟩;have m:w'.heap[p.b]?=some (.cells (dW p s d) 94):=(c.block p.b a.lo.2 λn=>n.2 rfl).trans a.box;have t:∀{t:Int},t≠ -5->∀b,d.ow b=t->¬(d.ow b=-5/\b≠p.b):=λO b e n=>O (e.symm.trans n.1);obtain⟨y1,y2,T⟩:=a.wyK c (t (by decide)) i rfl (qz m).1;obtain⟨f,g⟩:=a.evK c (t (by decide)) i;refine⟨y,m,a.own,⟨a.pgK c (t (by decide)) i,a.pg.2⟩,M,⟨J,?_,λq N=>F q (List.mem_of_mem_eraseP N),G,H,?_⟩,λj b q=>?_,⟨y1,y2,a.wy.2.2.1,a.wy.2.2.2.1,T⟩,a.bdK c (t (by decide)) i rfl (qz m).2,f,a.evt.1,g⟩
  ·exact(u.sublist ((List.eraseP_sublist (l:=s.ps) (p:=λq=>q.1==k)).map _))
  ·exact az (List.length_eraseP_le) I
  ·have x:j≠k:=λe=>by
     subst e;have:cU (d.l.eraseP λq=>q.1==j) j=none:=by unfold cU;rw[xv d.l L];rfl
     rw[this]at q;cases q
   have z:cU d.l j=some b:=by
    unfold cU at q ⊢;rw[oc x]at q;exact q
   obtain⟨P,B,A,r,D⟩:=a.psK c (ak _) (t (by have:=(a.key z).1;omega)) i y z;refine⟨P,B,A,?_,D⟩;unfold Sy.get at r ⊢;rw[oc x];exact r
 rcases a.pm with⟨f,g⟩|⟨h,f,g,o,C⟩
 ·refine⟨w,?_,v w (br.refl _ _) (ah ⟨f,by rw[g];rfl⟩),br.refl _ _⟩;have K:=underlying86;intro ty;rw[f];simp[Builtin.delete_,cr K,kY,Result.andThen]
 ·obtain⟨w',Q,R,S,_⟩:=wE.del C underlying86 k;have c:br (λq=>d.ow q=-5/\q≠p.b) w w':=S.mono λq _ e=>by rw[e];exact⟨g,o⟩
  exact⟨w',λty=>by rw[f];exact Q ty,v w' c (ai ⟨h,f,g,o,R⟩),c⟩
theorem Gt(a:Nat)(c:Option Nat)(x how:Int)(w w1:World)(R:World->Prop)(f:Hid (w.cell? ⟨a,3,none⟩=some (.map c)))(i:∀ty,(Builtin.delete_ #[86,3] ty #[.map c,ab x]).run Tryz.prog w=.ok (.tuple #[]) w1)(g:Hid (am 68 #[aB a,af ⟨#[101,110,100]⟩,ab x,ab how,.agg #[ab 0,ab 0,af ⟨#[]⟩,ae none 0 0]] w1 λe w'=>e=.returned (.tuple #[])/\R w')):am 100 #[aB a,ab x,ab how] w λe w'=>e=.returned (.tuple #[])/\R w':=by
 have h:=f.out;go_enter func100,ntmps100;go_wp2_with fail;refine g.mono ?_;rintro e j ⟨rfl,b⟩;have d:=aq b;clear b;go_wp2_with fail;exact dZ (v:=.tuple #[]) (by simp[results]) rfl ⟨rfl,d⟩
theorem bj.drop(g:bj p s d w)(x how:Int)(k:d.es.length<=100000):am 100 #[aB p.b,ab x,ab how] w λe w'=>e=.returned (.tuple #[])/\Hid (∃c,bj p (s.drop x how) c w'/\dT 1 d c w w'):=by
 obtain⟨f,m,h,n⟩:=g.del x;refine Gt p.b d.po x how w f _ g.cells.2.2.2 m ((h.tell NP x how 0 0 ⟨#[]⟩ none 0 0 tz (JF f) k).mono λe w' a=>⟨a.1,?_⟩);obtain⟨c,i,j⟩:=a.2.up h;have o:dT 0 d {d with l:=d.l.eraseP λa=>a.1==x} w f:=⟨n.mono λa _ e=>by rw[e.1];decide,λ_ _=>rfl,rfl,ak _,ak _,ak _⟩;exact⟨c,i,(o.trans j).mono (ak _)⟩
end
theorem M1{w:World}{base:Nat}{e:TypeId}{sz:Nat}{v:Value}{n:Nat}{xs:List Value}(b:w.ownsRow base e sz v n xs):∃a c,v=ae a n c:=by
 rcases b.2 with⟨rfl,rfl⟩|⟨f,c,d,rfl,_⟩
 ·exact⟨none,0,rfl⟩
 ·exact⟨_,c,rfl⟩
section
variable {p:kQ} {s:Sy} {d:fY} {w:World}
theorem bj.parted(a:bj p s d w){x:Int}(u:dt x)(h:Bool):am 101 #[.pointer (some ⟨p.b,5,none⟩),ab x,.bool h] w λe w'=>∃v,e=.returned v/\Hid (iC w.heap.size v (uS s.bonds x h) w'/\bj p {s with bonds:=wo s.bonds (x::uS s.bonds x h)} d w'/\dT 0 d d w w'):=by
 refine(Jm a.bd.1 a.bd.2.1 u h).mono ?_;rintro e w' ⟨v,rfl,l⟩;obtain⟨o,q,c⟩:=l;have f:∀b,d.ow b≠0->d.ow b=d.ow b:=λ_ _=>rfl;have j:∀b,d.ow b≠0->p.lo<=b/\b<w'.heap.size:=λb g=>⟨(a.low b g).1,aR (a.low b g).2 c.size⟩;have t:∀{t:Int},t≠ -2->∀b,d.ow b=t->¬d.bo=some b:=λr b e z=>r (e.symm.trans (a.bd.2.2 b z));have i:w'.heap[p.b]?=some (.cells (dW p s d) 94):=(c.block p.b a.lo.2 (t (by decide) p.b a.own)).trans a.box;obtain⟨y1,y2,y⟩:=a.wyK c (t (by decide)) f rfl (qz i).1;obtain⟨m,n⟩:=a.evK c (t (by decide)) f;exact⟨v,rfl,o,⟨j,i,a.own,⟨a.pgK c (t (by decide)) f,a.pg.2⟩,a.pmK c (λb e _=>t (by decide) b e) f,a.keys,λk b g=>a.psK c (ak _) (t (by have:=(a.key g).1;omega)) f j g,⟨y1,y2,a.wy.2.2.1,a.wy.2.2.2.1,y⟩,⟨q,a.bd.2.1.wo _,a.bd.2.2⟩,m,a.evt.1,n⟩,c.mono λb _ e=>by rw[a.bd.2.2 b e];decide,λ_ _=>rfl,rfl,ak _,ak _,ak _⟩
theorem Mx{g:Int×Int->Bool}(b:AB g)(x:Int)(a:Bool):(uS g x a).length<=99:=by
 unfold uS;split
 ·simp
 ·exact(Ew b x).le
theorem JS(b:Nat)(x how:Int)(w:World)(l:List Int)(L:Nat)(h:Bool)(R:Option Addr->Nat->Nat->World->Prop)(D:L<=99)(z:Hid (l.length=L))(s:h=(how==1))(o:Hid (am 100 #[aB b,ab x,ab how] w λe w'=>e=.returned (.tuple #[])/\Hid (am 101 #[.pointer (some ⟨b,5,none⟩),ab x,.bool h] w' λe w'=>∃a c,e=.returned (ae a L c)/\Hid (R a c 0 w'))))(A:Hid (∀a c j W,R a c j W->(∀(i:Nat)(k:Int),l[i]?=some k->∃g,a=some ⟨g,0,none⟩/\W.cell? ⟨g,i,none⟩=some (ab k))/\∀y,l[j]?=some y->am 100 #[aB b,ab y,ab 4] W λe w'=>e=.returned (.tuple #[])/\Hid (R a c (j+1) w'))):am 70 #[aB b,ab x,ab how] w λe w'=>e=.returned (.tuple #[])/\Hid (∃a c,R a c L w'):=by
 go_enter func70,ntmps70;go_wp2_with fail;refine o.mono ?_;rintro e I ⟨rfl,n⟩;have E:(how==1)=h:=s.symm;clear o s;go_wp2_with fail;refine n.mono ?_;rintro e J ⟨a,c,rfl,d⟩;clear n;go_wp2_with fail;go_loopw [7,20] (λ_ i wr=>∃j:Nat,j<=L/\i=ab j/\Hid (R a c j wr)) (λ_ i _=>L-(intOf i).toNat)
 case atStart=>exact⟨0,aI _,rfl,d⟩
 case round=>
 obtain⟨j,F,rfl,f⟩:=hrel;by_cases C:j<L
 ·obtain⟨y,m⟩:∃y,l[j]?=some y:=⟨l[j]'(by rw[z.out];exact C),aG _⟩;obtain⟨q,r⟩:=A a c j wr f;obtain⟨g,rfl,B⟩:=q j y m;have p:=aq (r y m);have G:(0:Int)<=(j:Int):=by omega
  have H:(j:Int)<(L:Int):=by omega
  clear q r m d;go_wp2_with fail;refine p.mono ?_;rintro e K ⟨rfl,t⟩;clear p B;go_wp2_with fail;go_roundw
  case rel=>exact⟨j+1,by omega,by go_num,t⟩
  case measure=>simp[intOf];omega
 ·obtain rfl:j=L:=by omega
  have u:=aq f.out;clear f d;go_wp2_with fail;exact dZ (v:=.tuple #[]) (by simp[results]) rfl ⟨rfl,a,c,u⟩
theorem bj.fin(F:bj p s d w){x how:Int}(O:dt x)(af:d.es.length<=99000):am 70 #[aB p.b,ab x,ab how] w λe w'=>e=.returned (.tuple #[])/\Hid (∃g,bj p (s.fin x how) g w'/\dT 100 d g w w'):=by
 have I:=Mx F.bd.2.1 x (how==1);obtain⟨l,z⟩:∃l,l=uS s.bonds x (how==1):=⟨_,rfl⟩;rw[<-z]at I;refine(JS p.b x how w l l.length (how==1) (λf c B m=>∃g q,bj p ((l.take B).foldl (λs D=>s.drop D 4) {s.drop x how with bonds:=wo s.bonds (x::l)}) g m/\dT (1+B) d g w m/\iC q (ae f l.length c) l m/\∀a,(Value.slice f l.length c).ownBlock=some a->g.ow a=0) I rfl rfl ?_ ?_).mono ?_
 ·refine(F.drop x how (by omega)).mono ?_;rintro e aj ⟨rfl,j⟩;obtain⟨d1,G,S⟩:=j.out;refine⟨rfl,(G.parted O (how==1)).mono ?_⟩;rintro e al ⟨T,rfl,L⟩;obtain⟨v,K,R⟩:=L;have h:(s.drop x how).bonds=s.bonds:=rfl;rw[h,<-z]at v K;obtain⟨f,c,rfl⟩:∃f c,T=ae f l.length c:=M1 v;refine⟨f,c,rfl,d1,_,K,(S.trans R).mono (by omega),v,λa A=>?_⟩;have ad:=(v.lt a A).1;by_cases H:d1.ow a=0
  ·exact H
  ·have:=(G.low a H).2;omega
 ·rintro f c B m ⟨g,q,r,t,u,E⟩;refine⟨λP k n=>?_,λD J=>?_⟩
  ·obtain⟨V,W,e,o⟩:=u.row;injection e with h _ y;subst h y;rcases u.2 with⟨e,M⟩|⟨Z,X,Y,e,_⟩
   ·rw[bF M]at n;simp at n
   ·injection e with h _ y;subst h y;rcases o with o|⟨aa,ai,e,ah,o⟩
    ·rw[o]at n;simp at n
    ·injection e with e;injection e with h N;subst h N;have:=o P k n;rw[dc]at this;exact⟨_,rfl,this⟩
  ·have ag:=(aO.1 J).1;refine(r.drop D 4 (by have:=t.2.2.2.1;omega)).mono ?_;rintro e w' ⟨rfl,j⟩;obtain⟨d2,Q,C⟩:=j.out;have A:∀a,(Value.slice f l.length c).ownBlock=some a->a<m.heap.size:=λa i=>(u.lt a i).2;refine⟨rfl,d2,q,?_,(t.trans C).mono (by omega),bi u C.1 λa i U=>by rw[E a i]at U;omega,λa i=>(C.2.1 a (A a i)).trans (E a i)⟩;rw[dq,J,jD];exact Q
 ·rintro e w' ⟨rfl,j⟩;obtain⟨f,c,g,q,r,t,_⟩:=j;refine⟨rfl,g,?_,t.mono (by omega)⟩;rw[bu (ak _)]at r;unfold Sy.fin;rw[<-z];exact r
end
section
variable {p:kQ} {s:Sy} {d:fY} {w:World}
theorem bj.linkB(c:bj p s d w){x y:Int}(J:dt x)(K:dt y)(F:d.bn<1000000):am 126 #[.pointer (some ⟨p.b,5,none⟩),ab x,ab y] w λe w'=>e=.returned (ab (vv x y))/\Hid (∃q,bj p {s with bonds:=if vv x y=0 then iE s.bonds (iQ x y) true else s.bonds} q w'/\dT 1 d q w w'):=by
 refine(F9 c.bd.1 J K F).mono ?_;rintro e w' ⟨rfl,A⟩;obtain⟨o,f,g,D⟩:=A;have H:=g.size;have i:∀b,Me (NS p s d) d.bo b->b=p.b\/d.ow b=-2:=λb e=>e.imp id (c.bd.2.2 b);have G:o≠some p.b:=λe=>by
  subst e;exact f.ne rfl
 have t:∀{t:Int},t≠ -2->t≠ -5->∀b,d.ow b=t->¬Me (NS p s d) d.bo b:=λf E b e a=>by
  rcases i b a with a|a
  ·rw[a,c.own]at e;exact E e.symm
  ·exact f (e.symm.trans a)
 have r:w'.heap[p.b]?=some (.cells (dW p {s with bonds:=if vv x y=0 then iE s.bonds (iQ x y) true else s.bonds} {d with ow:=Fy d w w' (-2),bo:=o,bn:=d.bn+1}) 94):=by
  have:=f.2.1.2;simpa [NS,dW]using this
 have z:=uf (t:=-2) c H c.lo.1;have h:=uh (w':=w') (t:=-2) c;obtain⟨B,C⟩:=qz r;obtain⟨y1,y2,N⟩:=c.wyK g (t (by decide) (by decide)) h rfl B;obtain⟨l,m⟩:=c.evK g (t (by decide) (by decide)) h;refine⟨rfl,{d with ow:=Fy d w w' (-2),bo:=o,bn:=d.bn+1},⟨z,r,(h p.b (by rw[c.own];decide)).trans c.own,⟨c.pgK g (t (by decide) (by decide)) h,c.pg.2⟩,c.pmK g (λb l m a=>?_) h,c.keys,λk b j=>c.psK g (ak _) (t (by have:=(c.key j).1;omega) (by have:=(c.key j).1;omega)) h z j,⟨y1,y2,c.wy.2.2.1,c.wy.2.2.2.1,N⟩,⟨?_,?_,λb e=>?_⟩,l,c.evt.1,m⟩,g.mono λb _ e=>?_,λj O=>if_neg (by omega),rfl,fQ _,fQ _,ak _⟩
 ·rcases i b a with a|a
  ·exact m a
  ·rw[l]at a;cases a
 ·exact⟨f.1,C,f.2.2⟩
 ·show AB (if vv x y=0 then iE s.bonds (iQ x y) true else s.bonds);split
  ·rename_i n;intro k u;by_cases v:k=iQ x y
   ·subst v;unfold vv at n;split at n
    ·rename_i I;obtain⟨L,M,P⟩:=I;simp only[nP,aA,bO]at L M;unfold iQ;simp only;omega
    ·cases n
   ·rw[bT _ _ v]at u;exact c.bd.2.1 k u
  ·exact c.bd.2.1
 ·rcases D b (ai e)with a|a
  ·rcases i b a with a|a
   ·subst a;exact absurd e G
   ·exact(h b (by rw[a];decide)).trans a
  ·have:=(f.lt b (ai e)).2;exact if_pos ⟨a,this⟩
 ·rcases i b e with a|a
  ·rw[a,c.own];decide
  ·rw[a];decide
theorem MS(d:Nat)(a b:Int)(r:Bool)(v:Int)(w:World)(R:World->Prop)(f:Hid (am 73 #[aB d,ab b] w λe w'=>e=.returned (.bool r)/\w'=w))(i:Hid (r=false->R w))(j:Hid (r=true->am 126 #[.pointer (some ⟨d,5,none⟩),ab a,ab b] w λe w'=>e=.returned (ab v)/\Hid (R w'))):am 103 #[aB d,ab a,ab b] w λe w'=>e=.returned (.tuple #[])/\Hid (R w'):=by
 go_enter func103,ntmps103;go_wp2_with fail;refine f.mono ?_;rintro e k ⟨rfl,g⟩;obtain rfl:=g.symm;clear g f;cases r
 ·have c:=aq (i rfl);go_wp2_with fail;exact dZ (v:=.tuple #[]) (by simp[results]) rfl ⟨rfl,c⟩
 ·have c:=aq (j rfl);go_wp2_with fail;refine c.mono ?_;rintro e l ⟨rfl,h⟩;go_wp2_with fail;exact dZ (v:=.tuple #[]) (by simp[results]) rfl ⟨rfl,h⟩
theorem bj.link(f:bj p s d w){a b:Int}(g:dt a)(h:dt b)(i:d.bn<1000000):am 103 #[aB p.b,ab a,ab b] w λe w'=>e=.returned (.tuple #[])/\Hid (∃c,bj p (s.link a b) c w'/\dT 1 d c w w'):=by
 refine MS p.b a b (s.get b).isSome (vv a b) w (λw'=>∃c,bj p (s.link a b) c w'/\dT 1 d c w w') (f.isAlive b) (λe=>⟨d,?_,(dT.later d (ap _ _)).mono (aI _)⟩) λe=>?_
 ·unfold Sy.link;rw[e];exact f
 ·unfold Sy.link;rw[e];exact f.linkB g h i
end
section
variable {p:kQ} {s:Sy} {d:fY} {w:World}
theorem K8{m:Nat}{x:Tm (m+1)}(c:bv (m+1) x=0)(a b:Int)(L:Nat):nK 12 a b (aS 13 (m+1) x) L=nK 12 a b (cn (m+1) x) L:=by
 have f:aD ⟨m+1,x⟩:=aL.2 (bC.1 c).1;have e:=ju 13 (m+1) x f (by have:=(bC.1 c).2.1;omega);have d:=eO c;unfold nK;rw[bJ e,cB _ _ _ _ e,bJ d,cB _ _ _ _ d]
theorem bj.sendW(g:bj p s d w){a b:Int}(al:I2 (a,b)){m:Nat}(x:Tm (m+1))(ar:In w.heap.size w (m+1) x)(A:bv (m+1) x=0)(ao:d.wn<999999):am 125 #[.pointer (some ⟨p.b,4,none⟩),ab a,ab b,df (m+1) x] w λe w'=>e=.returned (ab (nK 12 a b (cn (m+1) x) (s.ways (a,b)).length))/\Hid (∃o,bj p (if nK 12 a b (cn (m+1) x) (s.ways (a,b)).length=0 then {s with ways:=iE s.ways (a,b) (s.ways (a,b)++ [cn (m+1) x])}else s) o w'/\dT 1 d o w w'):=by
 have Z:aD ⟨m+1,x⟩:=aL.2 (bC.1 A).1;have V:fA (m+1) x<13:=by have:=(bC.1 A).2.1;omega
 have aa:=ju 13 (m+1) x Z V;have W:(d.f (a,b)).length=(s.ways (a,b)).length:=by
  have:=congrArg List.length (g.wy.2.2.1 (a,b));simpa using this
 have ay:(d.f (a,b)).length<=20:=g.wy.2.2.2.1 _;have aq:df (m+1) x=df (12+1) (aS 13 (m+1) x):=(zx 12 m x).symm;rw[aq];have T:bv 13 (aS 13 (m+1) x)=0:=(bJ aa).trans A;refine(K9 (N:=12) g.wy.1 al (aS 13 (m+1) x) (sD 13 (m+1) x _ _ Z V ar) (eg T) ao (by omega)).mono ?_;rintro e w' ⟨rfl,y,Q⟩;rw[W,K8 A]at y Q ⊢;refine⟨rfl,?_⟩;by_cases j:nK 12 a b (cn (m+1) x) (s.ways (a,b)).length=0;rotate_left
 ·rw[if_neg j];exact⟨d,g.later (y j),(dT.later d (y j)).mono (aI _)⟩
 rw[if_pos j];obtain⟨n,L,sl,ad,C,r,K,ae,au⟩:=Q j;have R:aK 13 (cn (m+1) x)=true/\(s.ways (a,b)).length<20:=by
  unfold nK gO at j;split at j
  ·cases j
  ·split at j
   ·rename_i i;exact absurd j i
   ·split at j
    ·cases j
    ·rename_i i;split at j
     ·cases j
     ·exact⟨by simpa using i,by omega⟩
 have S:cn 13 n=cn (m+1) x:=(ic ad).trans (ic aa);have U:bv 13 n=0:=(bJ ad).trans T;have an:aK 13 n=true:=by
  have:=cB _ _ _ _ (eO U);rw[S]at this;exact this.symm.trans R.1
 have ap:=r.size;have B:=g.wy.2.1;have t:∀{t:Int},t≠ -1->t≠ -5->∀b,d.ow b=t->¬rU (Ay p s d) d.wo d.sl b:=λy aj b e c=>by
  rcases B b c with c|c
  ·rw[c,g.own]at e;exact aj e.symm
  ·exact y (e.symm.trans c)
 obtain⟨o,v⟩:∃o,o={d with ow:=Fy d w w' (-1),wo:=L,wn:=d.wn+1,f:=iE d.f (a,b) (d.f (a,b)++ [n]),sl:=sl}:=⟨_,rfl⟩;obtain⟨E,I⟩:∃E,E={s with ways:=iE s.ways (a,b) (s.ways (a,b)++ [cn (m+1) x])}:=⟨_,rfl⟩;have H:w'.heap[p.b]?=some (.cells (dW p E o) 94):=by
  have:=C.2.1.2;rw[I,v];simpa [Ay,dW]using this
 have X:=uf (t:=-1) g ap g.lo.1;have q:=uh (w':=w') (t:=-1) g;obtain⟨O,P⟩:=qz H;rw[v]at P;have az:∀h,rU (Ay p E o) L sl h->rU (Ay p s d) d.wo d.sl h\/w.heap.size<=h:=K;obtain⟨F,G⟩:=g.evK r (t (by decide) (by decide)) q;refine⟨o,?_,?_⟩
 ·rw[<-I,v];rw[I]at*;refine⟨X,by rw[v]at H;exact H,(q p.b (by rw[g.own];decide)).trans g.own,⟨g.pgK r (t (by decide) (by decide)) q,g.pg.2⟩,g.pmK r (λb F G c=>?_) q,g.keys,λk b h=>g.psK r (ak _) (t (by have:=(g.key h).1;omega) (by have:=(g.key h).1;omega)) q X h,⟨?_,λh c=>?_,λk=>?_,λk=>?_,λk c i=>?_⟩,g.bdK r (t (by decide) (by decide)) q rfl P,F,g.evt.1,G⟩
  ·rcases B b c with c|c
   ·exact G c
   ·rw[F]at c;cases c
  ·rw[v]at O;exact⟨C.1,O,C.2.2⟩
  ·rcases K h c with z|z
   ·exact(B h z).imp id λe=>(q h (by rw[e];decide)).trans e
   ·exact ai (if_pos ⟨z,(C.lt h c).2⟩)
  ·by_cases l:k=(a,b)
   ·subst l;show (iE d.f (a,b) (d.f (a,b)++ [n]) (a,b)).map (cn 13)=iE s.ways (a,b) (s.ways (a,b)++ [cn (m+1) x]) (a,b);rw[cJ,cJ,fP,g.wy.2.2.1,aM,b8,S]
   ·show (iE d.f (a,b) (d.f (a,b)++ [n]) k).map (cn 13)=iE s.ways (a,b) (s.ways (a,b)++ [cn (m+1) x]) k;rw[bT _ _ l,bT _ _ l];exact g.wy.2.2.1 k
  ·by_cases l:k=(a,b)
   ·subst l;show (iE d.f (a,b) (d.f (a,b)++ [n]) (a,b)).length<=20;rw[cJ,bk,W];have:=R.2;simp;omega
   ·show (iE d.f (a,b) (d.f (a,b)++ [n]) k).length<=20;rw[bT _ _ l];exact g.wy.2.2.2.1 k
  ·have i:c∈iE d.f (a,b) (d.f (a,b)++ [n]) k:=i;have Y:∀J,∀c∈d.f J,bv 13 c=0/\aK 13 c=true/\In w'.heap.size w' 13 c/\cd (λh=>Fy d w w' (-1) h=-1/\¬rU (Ay p s d) L sl h) 13 c:=λJ c i=>by
    obtain⟨av,aw,af,ax⟩:=g.wy.2.2.2.2 J c i;have ag:=eP r (D:=λh=>(d.ow h=-1/\¬rU (Ay p s d) d.wo d.sl h)/\h<w.heap.size) (λh z M=>z.1.2 M) ⟨af,In.offB ax af⟩;refine⟨av,aw,ag.1,ag.2.mono λh u=>⟨(q h (by rw[u.1.1];decide)).trans u.1.1,λM=>?_⟩⟩;rcases K h M with ah|ah
    ·exact u.1.2 ah
    ·omega
   by_cases l:k=(a,b)
   ·subst l;rw[cJ]at i;rcases dp.1 i with i|i
    ·exact Y _ c i
    ·obtain rfl:=eF.1 i;exact⟨U,an,ae,(In.offB au ae).mono λh u=>⟨if_pos ⟨u.1.1,u.2⟩,u.1.2⟩⟩
   ·rw[bT _ _ l]at i;exact Y _ c i
 ·rw[v]
  exact⟨r.mono λb _ e=>by
   rcases B b e with c|c
   ·rw[c,g.own];decide
   ·rw[c];decide,λh aA=>if_neg (by omega),rfl,fQ _,ak _,fQ _⟩
end
theorem gd{w w':World}(b:aj w w'){q:Nat}{o:Obj}(a:w.heap[q]?=some o):w'.heap[q]?=some o:=(b.block q (aF.1 a).1).trans a
theorem Ej(x:Nat)(a b c d:Int)(f:ByteArray)(xa:Option Addr)(g xc:Nat)(v:Int)(w:World)(C R:World->Prop)(A:Hid (∀W,aj w W->am 125 #[.pointer (some ⟨x,4,none⟩),ab a,ab b,.agg #[ab c,ab d,af f,ae xa g xc]] W λe w'=>e=.returned (ab v)/\Hid (C w'/\∀q,w.heap.size<=q->q<W.heap.size->w'.heap[q]?=W.heap[q]?)))(B:Hid (∀W,C W->am 68 #[aB x,af (if v=0 then ⟨#[115,101,110,100]⟩else ⟨#[108,111,115,116]⟩),ab a,ab b,.agg #[ab c,ab d,af f,ae xa g xc]] W λe w'=>e=.returned (.tuple #[])/\Hid (R w'))):am 102 #[aB x,ab a,ab b,.agg #[ab c,ab d,af f,ae xa g xc]] w λe w'=>e=.returned (.tuple #[])/\Hid (R w'):=by
 go_enter func102,ntmps102;go_upto_region 1 with fail;generalize D:w.alloc _=h;have n:Hid (aj w h/\h.heap[w.heap.size]?=some (.cells #[ab c,ab d,af f,ae xa g xc] 28)):=by
  rw[<-D];exact⟨(ap _ _).alloc (ak _) _,aE _ _⟩
 clear D;obtain⟨q,m⟩:∃q,q=w.heap.size:=⟨_,rfl⟩;rw[<-m];have s:Hid (h.heap[q]?=some (.cells #[ab c,ab d,af f,ae xa g xc] 28)):=by rw[m];exact n.2
 have HB:=aq n.1;have E:=aq m;clear m n;have r:Hid (aj h h.drew):=(ap _ _).drew;have z:=aq (HB.trans (r.mono HB.size));have k:=aq (gd r s);have i:Hid (∀W:World,W.heap[q]?=some (.cells #[ab c,ab d,af f,ae xa g xc] 28)->W.cell? ⟨q,0,none⟩=some (ab c)/\W.cell? ⟨q,1,none⟩=some (ab d)/\W.cell? ⟨q,2,none⟩=some (af f)/\W.cell? ⟨q,3,none⟩=some (ae xa g xc)):=λW l=>⟨ag l 0,ag l 1,ag l 2,ag l 3⟩;obtain⟨F,G,H,I⟩:=i.out h s
 go_region_held3 (λW=>W.cell? ⟨q,0,none⟩=some (ab c)/\W.cell? ⟨q,1,none⟩=some (ab d)/\W.cell? ⟨q,2,none⟩=some (af f)/\W.cell? ⟨q,3,none⟩=some (ae xa g xc))
  (first|exact i _ k|exact i _ t) ((first
   | (go_at_call 125;refine(A _ z).mono ?_;rintro e y ⟨rfl,o⟩;have t:Hid (y.heap[q]?=some (.cells #[ab c,ab d,af f,ae xa g xc] 28)):=(o.2 q (by have:=E.out;omega) (aF.1 k).1).trans k)))
 obtain⟨d0,d1,d2,d3⟩:=i.out y t;have j:=aq (B y o.1);clear F G H I A B i o t k z r HB s;by_cases u:v=0
 ·subst u;rw[if_pos rfl]at j;go_wp2_with fail;refine j.mono ?_;rintro e J ⟨rfl,p⟩;go_wp2_with fail;exact dZ (v:=.tuple #[]) (by simp[results]) rfl ⟨rfl,p⟩
 ·rw[if_neg u]at j;have K:(v==0)=false:=by simpa using u
  go_wp2_with fail;refine j.mono ?_;rintro e J ⟨rfl,p⟩;go_wp2_with fail;exact dZ (v:=.tuple #[]) (by simp[results]) rfl ⟨rfl,p⟩
section
variable {p:kQ} {s:Sy} {d:fY} {w:World}
def FQ(d:fY)(w:World){m:Nat}(x:Tm m):Prop:=In w.heap.size w m x/\cd (λq=>0<=d.ow q) m x
theorem FQ.up{a m:Nat}{x:Tm m}{f:fY}{w':World}(c:FQ d w x)(k:dT a d f w w'):FQ f w' x:=by
 have g:=eP k.1 (D:=λb=>0<=d.ow b/\b<w.heap.size) (λb e h=>by omega) ⟨c.1,In.offB c.2 c.1⟩;exact⟨g.1,g.2.mono λb e=>by rw[k.2.1 b e.2];exact e.1⟩
theorem bj.send(o:bj p s d w){a b:Int}(z:I2 (a,b)){m:Nat}(x:Tm (m+1))(t:FQ d w x)(q:bv (m+1) x=0)(A:d.wn<999999)(D:d.es.length<100000):am 102 #[aB p.b,ab a,ab b,df (m+1) x] w λe w'=>e=.returned (.tuple #[])/\Hid (∃j,bj p (s.send a b (cn (m+1) x)) j w'/\dT 2 d j w w'):=by
 obtain⟨i,r⟩:∃i,i=nK 12 a b (cn (m+1) x) (s.ways (a,b)).length:=⟨_,rfl⟩;refine Ej p.b a b x.1.1 x.1.2.1 x.1.2.2 x.2.1.1 x.2.2.length x.2.1.2 i w (λc=>∃d1,bj p (if i=0 then {s with ways:=iE s.ways (a,b) (s.ways (a,b)++ [cn (m+1) x])}else s) d1 c/\dT 1 d d1 w c) (λc=>∃j,bj p (s.send a b (cn (m+1) x)) j c/\dT 2 d j w c) (λc g=>?_) λc g=>?_
 ·refine((o.later g).sendW z x ((t.1.below g).mono g.size) q A).mono ?_;rintro e w' ⟨rfl,k⟩;rw[<-r]at k ⊢;obtain⟨d1,n,h⟩:=k.out;refine⟨rfl,⟨d1,n,((dT.later d g).trans h).mono (ak _)⟩,λu C y=>h.1.block u y λE=>?_⟩;have:=(o.low u (by omega)).2;omega
 ·obtain⟨d1,n,h⟩:=g;have B:=t.up h;refine(n.tell (if i=0 then JX else nY) a b x.1.1 x.1.2.1 x.1.2.2 x.2.1.1 x.2.2.length x.2.1.2 (cn (m+1) x) (kp B.1 q) (by have:=h.2.2.2.1;omega)).mono ?_;rintro e w' ⟨rfl,k⟩;obtain⟨d2,f,v⟩:=k.up n;refine⟨rfl,d2,?_,(h.trans v).mono (ak _)⟩;unfold Sy.send;rw[<-r];by_cases l:i=0
  ·rw[if_pos l]at f ⊢;rw[if_pos l]at f;exact f
  ·rw[if_neg l]at f ⊢;rw[if_neg l]at f;exact f
end
def fS(a c:Nat)(d b:fY)(w w':World):Prop:=br (λq=>d.ow q≠0) w w'/\(∀q,q<w.heap.size->b.ow q=d.ow q)/\b.k<=d.k+c/\b.es.length<=d.es.length+a/\b.wn<=d.wn+a/\b.bn<=d.bn+a
theorem fS.trans{a b c e:Nat}{d d1 d2:fY}{w w1 w2:World}(j:fS a c d d1 w w1)(k:fS b e d1 d2 w1 w2):fS (a+b) (c+e) d d2 w w2:=by
 obtain⟨h,i,n,o,p,q⟩:=j;obtain⟨l,m,s,t,u,v⟩:=k;have r:=h.size;exact⟨h.trans l λf g e=>by rw[i f g]at e;exact e,λf g=>(m f (by omega)).trans (i f g),by omega,by omega,by omega,by omega⟩
theorem fS.mono{a b c e:Nat}{d d1:fY}{w w1:World}(f:fS a c d d1 w w1)(m:a<=b)(n:c<=e):fS b e d d1 w w1:=by
 obtain⟨g,h,i,j,k,l⟩:=f;exact⟨g,h,by omega,by omega,by omega,by omega⟩
theorem dT.un{a:Nat}{d d1:fY}{w w1:World}(b:dT a d d1 w w1):fS a 0 d d1 w w1:=⟨b.1.mono λq _ e=>by omega,b.2.1,by have:=b.2.2.1;omega,b.2.2.2⟩
theorem A9{c:Type}(k j:Int)(v:c):(l:List (Int×c))->(l.map λp=>if p.1=k then (k,v)else p).find? (λp=>p.1==j)=(l.find? λp=>p.1==j).map λp=>if p.1=k then (k,v)else p
 | []=>rfl
 | a::l=>by
  rw[aM,jC,jC,A9 k j v l];by_cases b:a.1=k
  ·rw[if_pos b];simp only[b];cases k==j<;>simp[b]
  ·rw[if_neg b];cases a.1==j<;>simp[b]
theorem P1.lie2{a f:Nat}{name:ByteArray}{room:Int}{cs:Tc}{c:List Tc}{k:Nat}{M:Nat->Prop}{w:World}(d:P1 a f name room cs c k M w):∀b,M b->a<=b/\b<w.heap.size:=by
 obtain⟨h,q,o,t,p,r,s,m,n,g,i,j,l,e⟩:=d;exact e
section
variable {p:kQ} {s:Sy} {d:fY} {w:World}
theorem Fg(s:Sy)(k j:Int)(v:ByteArray×Tc×List Tc):(s.put k v).get j=if j=k then (s.get k).map λ_=>v else s.get j:=by
 unfold Sy.put Sy.get;simp only;rw[A9];by_cases a:j=k
 ·subst a;rw[if_pos rfl];cases e:s.ps.find? (λp=>p.1==j)with
  | none=>rfl
  | some b=>
   have:=List.find?_some e;simp only[cm]at this;simp[this]
 ·rw[if_neg a];cases e:s.ps.find? (λp=>p.1==j)with
  | none=>rfl
  | some b=>
   have:=List.find?_some e;simp only[cm]at this;simp[this,a]
theorem vj(s:Sy)(k:Int)(v:ByteArray×Tc×List Tc):(s.put k v).ps.map (·.1)=s.ps.map (·.1):=by
 unfold Sy.put;simp only[gu];refine ji λb _=>?_;by_cases a:b.1=k
 ·simp[a]
 ·simp[a]
theorem bj.turnP(a:bj p s d w){k:Int}{b:Nat}(y:cU d.l k=some b){nm:ByteArray}{cs m:Tc}{F i:List Tc}(S:s.get k=some (nm,cs,F)){w':World}(e:br (λq=>d.ow q=k) w w'){N:Nat->Prop}{j:Nat}(Q:∀q,N q->d.ow q=k\/w.heap.size<=q)(T:d.k<=j)(x:P1 p.lo b nm p.room m i (j+201) N w')(P:i.length<=20):bj p (s.put k (nm,m,i)) {d with ow:=Fy d w w' k,k:=j} w'/\fS 0 (j-d.k) d {d with ow:=Fy d w w' k,k:=j} w w':=by
 have Z:=(a.key y).1;have v:=uf (t:=k) a e.size a.lo.1;have f:=uh (w':=w') (t:=k) a;have R:∀q,N q->p.lo<=q/\q<w'.heap.size:=P1.lie2 x;have t:∀{t:Int},t≠k->∀q,d.ow q=t->¬d.ow q=k:=λW q h g=>W (h.symm.trans g);have r:w'.heap[p.b]?=some (.cells (dW p s d) 94):=(e.block p.b a.lo.2 (t (by omega) p.b a.own)).trans a.box;obtain⟨y1,y2,Y⟩:=a.wyK e (t (by omega)) f rfl (qz r).1;obtain⟨G,H⟩:=a.evK e (t (by omega)) f;obtain⟨I,J,K,L,M,O⟩:=a.keys;have U:∀q∈(s.put k (nm,m,i)).ps,1<=q.1/\q.1<=s.last:=λq z=>by
  have:q.1∈(s.put k (nm,m,i)).ps.map (·.1):=cC.2 ⟨q,z,rfl⟩;rw[vj]at this;obtain⟨X,V,h⟩:=cC.1 this;rw[<-h];exact K X V
 refine⟨⟨v,r,(f p.b (by rw[a.own];decide)).trans a.own,⟨a.pgK e (t (by omega)) f,a.pg.2⟩,a.pmK e (λq h _=>t (by omega) q h) f,⟨by rw[vj];exact I,by rw[vj];exact J,U,L,M,by unfold Sy.put;simpa using O⟩,λn c q=>?_,⟨y1,y2,a.wy.2.2.1,a.wy.2.2.2.1,Y⟩,a.bdK e (t (by omega)) f rfl (qz r).2,G,a.evt.1,H⟩,e.mono λq _ h=>by rw[h];omega,λq z=>if_neg (by omega),by show j<=_;omega,ak _,ak _,ak _⟩;by_cases u:n=k
 ·subst u;have q:cU d.l n=some c:=q;rw[y]at q;obtain rfl:=aw q;refine⟨nm,m,i,by rw[Fg,if_pos rfl,S];rfl,x.mono (λq g=>?_) (ak _) λq g=>v q (by have g:Fy d w w' n q=n:=g;rw[g];omega),P⟩;rcases Q q g with o|o
  ·exact(f q (by rw[o];omega)).trans o
  ·exact if_pos ⟨o,(R q g).2⟩
 ·obtain⟨A,B,C,D,E⟩:=a.psK e T (t u) f v q;exact⟨A,B,C,by rw[Fg,if_neg u];exact D,E⟩
end
theorem If(i L:Nat)(G:Option Nat)(a b d f:Int)(g:ByteArray)(xa:Option Addr)(h xc:Nat)(v:Int)(w:World)(o R:World->Prop)(V:i<w.heap.size)(M:Hid (w.cell? ⟨i,3,none⟩=some (.map G)))(H:Hid (∀W,aj w W->(Instr.lookup 86 (.map G) (ab b) false).run Tryz.prog W=.ok (aB L) W))(I:Hid (∀W,aj w W->am 105 #[aB L,.agg #[ab d,ab f,af g,ae xa h xc]] W λe w'=>e=.returned (ab v)/\Hid (o w'/\∀q,w.heap.size<=q->q<W.heap.size->w'.heap[q]?=W.heap[q]?)))(n:Hid (v=2->∀W,o W->am 68 #[aB i,af ⟨#[108,111,115,116]⟩,ab a,ab b,.agg #[ab d,ab f,af g,ae xa h xc]] W λe w'=>e=.returned (.tuple #[])/\Hid (R w')))(l:Hid (v=6->∀W,o W->am 70 #[aB i,ab b,ab 3] W λe w'=>e=.returned (.tuple #[])/\Hid (R w')))(m:Hid (v≠2->v≠6->∀W,o W->R W)):am 74 #[aB i,ab a,ab b,.agg #[ab d,ab f,af g,ae xa h xc]] w λe w'=>e=.returned (.tuple #[])/\Hid (R w'):=by
 go_enter func74,ntmps74;go_upto_region 1 with fail;generalize K:w.alloc _=c;have t:Hid (aj w c/\c.heap[w.heap.size]?=some (.cells #[ab d,ab f,af g,ae xa h xc] 28)):=by
  rw[<-K];exact⟨(ap _ _).alloc (ak _) _,aE _ _⟩
 clear K;obtain⟨q,s⟩:∃q,q=w.heap.size:=⟨_,rfl⟩;rw[<-s];have C:Hid (c.heap[q]?=some (.cells #[ab d,ab f,af g,ae xa h xc] 28)):=by rw[s];exact t.2
 have HB:=aq t.1;have N:=aq s;clear s t;have A:Hid (aj c c.drew):=(ap _ _).drew;have y:=aq (HB.trans (A.mono HB.size));have D:=aq (gd A C);have z:Hid (∀W:World,W.heap[q]?=some (.cells #[ab d,ab f,af g,ae xa h xc] 28)->W.cell? ⟨q,0,none⟩=some (ab d)/\W.cell? ⟨q,1,none⟩=some (ab f)/\W.cell? ⟨q,2,none⟩=some (af g)/\W.cell? ⟨q,3,none⟩=some (ae xa h xc)):=λW r=>⟨ag r 0,ag r 1,ag r 2,ag r 3⟩;obtain⟨O,P,Q,S⟩:=z.out c C;have T:c.cell? ⟨i,3,none⟩=some (.map G):=(HB.cell (p:=⟨i,3,none⟩) V).trans M;have U:=H c.drew y
 go_region_with ((first
     | (go_at_call 105;refine(I _ y).mono ?_;rintro e k ⟨rfl,u⟩;have J:Hid (k.heap[q]?=some (.cells #[ab d,ab f,af g,ae xa h xc] 28)):=(u.2 q (by have:=N.out;omega) (aF.1 D).1).trans D)))
 all_goals
  obtain⟨d0,d1,d2,d3⟩:=z.out k J;have B:=aq u.1;clear O P Q S T U H I z u J D y A HB C;by_cases E:v=2
  ·subst E;have j:=aq (n (by simp) k B);clear n l m;go_wp2_with fail;refine j.mono ?_;rintro e X ⟨rfl,x⟩;go_wp2_with fail;exact dZ (v:=.tuple #[]) (by simp[results]) rfl ⟨rfl,x⟩
  ·have Y:(v==2)=false:=by simpa using E
   by_cases F:v=6
   ·subst F;have j:=aq (l (by simp) k B);clear n l m;go_wp2_with fail;refine j.mono ?_;rintro e X ⟨rfl,x⟩;go_wp2_with fail;exact dZ (v:=.tuple #[]) (by simp[results]) rfl ⟨rfl,x⟩
   ·have Z:(v==6)=false:=by simpa using F
    have j:=aq (m E F k B);clear n l m;go_wp2_with fail;exact dZ (v:=.tuple #[]) (by simp[results]) rfl ⟨rfl,j⟩
theorem Mw{m:Nat}{x:Tm m}(a:bv m x=0)(room:Int)(s:Tc)(ms:List Tc):nn m x room s ms=nn 13 (cn m x) room s ms:=by
 have b:=eO a;unfold nn;rw[bJ b,cB _ _ _ _ b,EY a]
theorem BY{d:Type}(k:Int)(v:d):(l:List (Int×d))->(l.map (·.1)).Nodup->(l.find? λp=>p.1==k).map (·.2)=some v->(l.map λp=>if p.1=k then (k,v)else p)=l
 | [],_,_=>rfl
 | a::l,hn,h=>by
  rw[aM,mS]at hn;rw[jC]at h;rw[aM];by_cases b:a.1=k
  ·have c:(a.1==k)=true:=by simpa using b
   rw[c]at h;have f:a.2=v:=by simpa using h
   rw[if_pos b];congr 1
   ·rw[<-f,<-b]
   ·refine(ji λi g=>?_).trans (List.map_id l);rw[if_neg λe=>hn.1 (cC.2 ⟨i,g,e.trans b.symm⟩)];rfl
  ·have c:(a.1==k)=false:=by simpa using b
   rw[c]at h;rw[if_neg b,BY k v l hn.2 h]
theorem vM{s:Sy}{k:Int}{v:ByteArray×Tc×List Tc}(b:(s.ps.map (·.1)).Nodup)(a:s.get k=some v):s.put k v=s:=by
 unfold Sy.put;rw[BY k v s.ps b a]
section
variable {p:kQ} {s:Sy} {d:fY} {w:World}
theorem bj.deliver(h:bj p s d w){a b:Int}(W:dt b){nm:ByteArray}{cs:Tc}{r:List Tc}(j:s.get b=some (nm,cs,r)){m:Nat}(x:Tm (m+1))(K:In w.heap.size w (m+1) x/\cd (λq=>¬1<=d.ow q) (m+1) x)(B:bv (m+1) x=0)(Z:d.k<=47000)(Y:d.es.length<=98000):am 74 #[aB p.b,ab a,ab b,df (m+1) x] w λe w'=>e=.returned (.tuple #[])/\Hid (∃z,bj p (s.deliver p.room a b (cn (m+1) x)) z w'/\fS 100 201 d z w w'):=by
 obtain⟨v,H⟩:∃v,cU d.l b=some v:=by
  have:=h.alive b;rw[j]at this;cases e:cU d.l b with
  | none=>rw[e]at this;cases this
  | some v=>exact⟨v,rfl⟩
 obtain⟨X,P,O,G,S,T⟩:=h.ps b v H;rw[j]at G;obtain⟨rfl,rfl,rfl⟩:nm=X/\cs=P/\r=O:=by
  injection G with G;injection G with I A;injection A with A R;exact⟨I,A,R⟩
 have M:=(h.key H).1;obtain⟨y,C⟩:∃y,y=nn 13 (cn (m+1) x) p.room cs r:=⟨_,rfl⟩;have aa:bv 13 (cn (m+1) x)=0:=(bJ (eO B)).trans B;refine If p.b v d.po a b x.1.1 x.1.2.1 x.1.2.2 x.2.1.1 x.2.2.length x.2.1.2 y w (λg=>∃d1,bj p (if y=0 then s.put b (nm,cs,r++ [cn (m+1) x])else s.put b (nm,cs,r)) d1 g/\fS 0 201 d d1 w g/\In g.heap.size g (m+1) x) (λg=>∃z,bj p (s.deliver p.room a b (cn (m+1) x)) z g/\fS 100 201 d z w g) h.lo.2 h.cells.2.2.2 (λg f=>?_) (λg f=>?_) (λe g f=>?_) (λe g f=>?_) λI A g f=>?_
 ·have:=(h.later f).look b false;rw[H]at this;exact this
 ·have V:=S.later f;have N:=(K.1.below f).mono f.size;refine(V.deliver x N (K.2.mono λq t F=>t (by rw[show d.ow q=b from F];exact M)) (eg B) (by omega) (by omega) (az h.lo.1 f.size)).mono ?_;rintro e w' ⟨rfl,u⟩;rw[Mw B,<-C]at u ⊢;obtain⟨c,n⟩:=u.out;have J:br (λq=>d.ow q=b) g w':=⟨c.os,c.tape,c.output,c.size,c.block⟩;have U:(if y=0 then r++ [cn (m+1) x]else r).length<=20:=by
   split
   ·rename_i i;rw[C]at i;unfold nn at i;split at i
    ·cases i
    ·simp;omega
   ·exact T
  obtain⟨o,E⟩:=(h.later f).turnP H j J (λq t=>t.1) (show d.k<=d.k+201 by omega) n U;refine⟨rfl,⟨_,?_,(((dT.later d f).un.trans E).mono (ak _) (by omega)),?_⟩,λq ad F=>J.block q F λt=>?_⟩
  ·split
   ·rename_i i;rw[if_pos i]at o;exact o
   ·rename_i i;rw[if_neg i]at o;exact o
  ·exact(eP J (D:=λq=>¬1<=d.ow q) (λq t F=>t (by rw[F];exact M)) ⟨N,K.2⟩).1
  ·have:=(h.low q (by rw[t];omega)).2;omega
 ·obtain⟨d1,c,n,L⟩:=f;rw[if_neg (by rw[e];decide),vM h.keys.2.1 j]at c;refine(c.tell nY a b x.1.1 x.1.2.1 x.1.2.2 x.2.1.1 x.2.2.length x.2.1.2 (cn (m+1) x) (kp L B) (by have:=n.2.2.2.1;omega)).mono ?_;rintro Q w' ⟨rfl,u⟩;obtain⟨d2,o,E⟩:=u.out.up c;refine⟨rfl,d2,?_,(n.trans E.un).mono (by omega) (by omega)⟩;unfold Sy.deliver;rw[j];simp only;rw[<-C,if_pos e];exact o
 ·obtain⟨d1,c,n,L⟩:=f;rw[if_neg (by rw[e];decide),vM h.keys.2.1 j]at c;refine(c.fin (how:=3) W (by have:=n.2.2.2.1;omega)).mono ?_;rintro Q w' ⟨rfl,u⟩;obtain⟨d2,o,E⟩:=u;refine⟨rfl,d2,?_,(n.trans E.un).mono (by omega) (by omega)⟩;unfold Sy.deliver;rw[j];simp only;rw[<-C,if_neg (by rw[e];decide),if_pos e];exact o
 ·obtain⟨d1,c,n,L⟩:=f;refine⟨d1,?_,n.mono (by omega) (ak _)⟩;unfold Sy.deliver;rw[j];simp only;rw[<-C,if_neg I,if_neg A];by_cases i:y=0
  ·rw[if_pos i]at c ⊢;exact c
  ·rw[if_neg i]at c ⊢;rw[vM h.keys.2.1 j]at c;exact c
end
theorem Bp(x:Nat)(a i j:Int)(k:ByteArray)(xa:Option Addr)(l xc:Nat)(g cl:Bool)(b:Int)(w:World)(R:Int->World->Prop)(z:Hid (∀W,aj w W->am 73 #[aB x,ab a] W λe w'=>e=.returned (.bool g)/\w'=W))(G:Hid (∀W,aj w W->am 23 #[.agg #[ab i,ab j,af k,ae xa l xc]] W λe w'=>e=.returned (ab b)/\aj W w'))(E:Hid (∀W,aj w W->am 75 #[.agg #[ab i,ab j,af k,ae xa l xc]] W λe w'=>e=.returned (.bool cl)/\aj W w'))(F:Hid (g=true->b=0->cl=true->∀W,aj w W->am 74 #[aB x,ab 0,ab a,.agg #[ab i,ab j,af k,ae xa l xc]] W λe w'=>e=.returned (.tuple #[])/\Hid (R 0 w')))(r:Hid (∀W,aj w W->(g=false->R 4 W)/\(g=true->b≠0->R b W)/\(g=true->b=0->cl=false->R 5 W))):am 33 #[aB x,ab a,.agg #[ab i,ab j,af k,ae xa l xc]] w λe w'=>∃v,e=.returned (ab v)/\Hid (R v w'):=by
 go_enter func33,ntmps33;go_upto_region 1 with fail;generalize A:w.alloc _=y;have d:Hid (aj w y/\y.heap[w.heap.size]?=some (.cells #[ab i,ab j,af k,ae xa l xc] 28)):=by
  rw[<-A];exact⟨(ap _ _).alloc (ak _) _,aE _ _⟩
 clear A;go_wp2_with fail;refine(z _ d.1).mono ?_;rintro e K ⟨rfl,B⟩;obtain rfl:=B.symm;clear B z;cases g
 ·have h:=aq ((r y d.1).1 rfl);go_wp2_with fail
  go_ret
  exact⟨4,rfl,h⟩
 have c:=d.2;obtain⟨m,n,o,p⟩:=Qg c;clear c;go_wp2_with fail;refine(G _ d.1).mono ?_;rintro e I ⟨rfl,s⟩;have f:=aq (⟨d.1.trans (s.mono d.1.size),gd s d.2⟩:_/\_);clear m n o p s;by_cases u:b=0;rotate_left
 ·have h:=aq ((r I f.1).2.1 (by simp) u);have J:(b !=0)=true:=by simpa using u
  go_wp2_with fail
  go_ret
  exact⟨b,rfl,h⟩
 subst u;have c:=f.2;obtain⟨m,n,o,p⟩:=Qg c;clear c;go_wp2_with fail;refine(E _ f.1).mono ?_;rintro e C ⟨rfl,t⟩;have q:=aq (⟨f.1.trans (t.mono f.1.size),gd t f.2⟩:_/\_);clear m n o p t;cases cl
 ·have h:=aq ((r C q.1).2.2 (by simp) (by simp) (by simp));go_wp2_with fail
  go_ret
  exact⟨5,rfl,h⟩
 have c:=q.2;obtain⟨m,n,o,p⟩:=Qg c;have H:=aq (F (by simp) (by simp) (by simp) C q.1);clear c;go_wp2_with fail;refine H.mono ?_;rintro e L ⟨rfl,D⟩;go_wp2_with fail
 go_ret
 exact⟨0,rfl,D⟩
section
variable {p:kQ} {s:Sy} {d:fY} {w:World}
theorem bj.inject(j:bj p s d w){a:Int}(y:dt a){m:Nat}(x:Tm (m+1))(l:In w.heap.size w (m+1) x/\cd (λq=>¬1<=d.ow q) (m+1) x)(u:(ax (m+1) x).length<=2097152)(A:d.k<=47000)(t:d.es.length<=98000):am 33 #[aB p.b,ab a,df (m+1) x] w λe w'=>∃v,e=.returned (ab v)/\Hid (v=(s.inject p.room a (m+1) x).2/\∃g,bj p (s.inject p.room a (m+1) x).1 g w'/\fS 100 201 d g w w'):=by
 have o:∀f,aj w f->fS 100 201 d d w f:=λf c=>(dT.later d c).un.mono (aI _) (aI _);refine Bp p.b a x.1.1 x.1.2.1 x.1.2.2 x.2.1.1 x.2.2.length x.2.1.2 (s.get a).isSome (aK (m+1) x) (bv (m+1) x) w (λv w'=>v=(s.inject p.room a (m+1) x).2/\∃g,bj p (s.inject p.room a (m+1) x).1 g w'/\fS 100 201 d g w w') (λf c=>(j.later c).isAlive a) (λf c=>dC (m+1) x w.heap.size f (l.1.below c) c.size u) (λf c=>iH (m+1) x w.heap.size f (l.1.below c) c.size) (λh i n f c=>?_) λf c=>⟨λe=>?_,λh i=>?_,λh i n=>?_⟩
 ·obtain⟨v,z⟩:=gA.1 h;obtain⟨F,E,D⟩:=v;refine((j.later c).deliver y z x ⟨(l.1.below c).mono c.size,l.2⟩ i A t).mono ?_;rintro e w' ⟨rfl,r⟩;obtain⟨g,B,C⟩:=r;have e:s.inject p.room a (m+1) x=(s.deliver p.room 0 a (cn (m+1) x),0):=by
   unfold Sy.inject;rw[if_neg (by rw[h];decide),if_neg (by rw[i];decide),if_neg (by rw[n];decide)]
  rw[e];exact⟨rfl,rfl,g,B,((dT.later d c).un.trans C).mono (by omega) (by omega)⟩
 ·have e:s.inject p.room a (m+1) x=(s,4):=if_pos e;rw[e];exact⟨rfl,d,j.later c,o f c⟩
 ·have e:s.inject p.room a (m+1) x=(s,bv (m+1) x):=by
    unfold Sy.inject;rw[if_neg (by rw[h];decide),if_pos i]
  rw[e];exact⟨rfl,d,j.later c,o f c⟩
 ·have e:s.inject p.room a (m+1) x=(s,5):=by
    unfold Sy.inject;rw[if_neg (by rw[h];decide),if_neg (by rw[i];decide),if_pos n]
  rw[e];exact⟨rfl,d,j.later c,o f c⟩
end
section
variable {p:kQ} {s:Sy} {d:fY} {w:World}
theorem bj.takeW(h:bj p s d w){a b:Int}(X:I2 (a,b))(Z:d.wn<999999):am 72 #[.pointer (some ⟨p.b,4,none⟩),ab a,ab b] w λe w'=> (s.ways (a,b)=[]->e=.returned (.tuple #[.agg #[ab 0,ab 0,af ⟨#[]⟩,ae none 0 0],ab 4])/\aj w w')/\ ∀t l,s.ways (a,b)=t::l->∃y:Tc,e=.returned (.tuple #[df 13 y,ab 0])/\cn 13 y=t/\bv 13 y=0/\aK 13 y=true/\∃z,bj p {s with ways:=iE s.ways (a,b) l} z w'/\dT 1 d z w w'/\In w'.heap.size w' 13 y/\cd (λq=>¬1<=z.ow q) 13 y:=by
 have n:=h.wy.2.2.1 (a,b);refine(Lm (N:=12) h.wy.1 X Z (by have:=h.wy.2.2.2.1 (a,b);omega)).mono ?_;rintro e w' ⟨B,V⟩;refine⟨λA=>B ?_,λt l A=>?_⟩
 ·rw[A]at n;simpa using n
 ·rw[A]at n;obtain⟨y,i,v,P,Q⟩:∃y i,d.f (a,b)=y::i/\cn 13 y=t/\i.map (cn 13)=l:=by
   cases I:d.f (a,b)with
   | nil=>rw[I]at n;simp at n
   | cons y i=>
    rw[I,aM]at n;injection n with ag ah;exact⟨y,i,rfl,ag,ah⟩
  obtain⟨Y,sl,L,m,M⟩:=V y i v;have u:=h.wy.2.1;have r:∀b,d.ow b≠0->d.ow b=d.ow b:=λ_ _=>rfl;have J:∀b,d.ow b≠0->p.lo<=b/\b<w'.heap.size:=λb q=>⟨(h.low b q).1,aR (h.low b q).2 m.size⟩;have x:∀{t:Int},t≠ -1->t≠ -5->∀b,d.ow b=t->¬rU (Ay p s d) d.wo d.sl b:=λB W b e g=>by
   rcases u b g with g|g
   ·rw[g,h.own]at e;exact W e.symm
   ·exact B (e.symm.trans g)
  have H:w'.heap[p.b]?=some (.cells (dW p s d) 94):=by
   have:=L.2.1.2;simpa [Ay,dW]using this
  have K:∀C,∀g∈d.f C,bv 13 g=0/\aK 13 g=true/\In w'.heap.size w' 13 g/\cd (λq=>d.ow q=-1/\¬rU (Ay p s d) d.wo d.sl q) 13 g:=λC g o=>by
   obtain⟨D,E,F⟩:=h.wy.2.2.2.2 C g o;exact⟨D,E,eP m (λq an G=>an.2 G) F⟩
  obtain⟨y1,y2,ai,al⟩:=K (a,b) y (by rw[v];simp);obtain⟨R,S⟩:=h.evK m (x (by decide) (by decide)) r;refine⟨y,Y,P,y1,y2,{d with wn:=d.wn+1,f:=iE d.f (a,b) i,sl:=sl},⟨J,H,h.own,⟨h.pgK m (x (by decide) (by decide)) r,h.pg.2⟩,h.pmK m (λq T U g=>?_) r,h.keys,λk c q=>h.psK m (ak _) (x (by have:=(h.key q).1;omega) (by have:=(h.key q).1;omega)) r J q,⟨L,λq g=>u q (M q g),λk=>?_,λk=>?_,λk g o=>?_⟩,h.bdK m (x (by decide) (by decide)) r rfl (qz H).2,R,h.evt.1,S⟩,⟨m.mono λq _ g=>?_,λ_ _=>rfl,rfl,fQ _,ak _,fQ _⟩,ai,al.mono λq g=>by show¬1<=d.ow q;rw[g.1];decide⟩
  ·rcases u q g with g|g
   ·exact U g
   ·rw[T]at g;cases g
  ·by_cases j:k=(a,b)
   ·subst j;show (iE d.f (a,b) i (a,b)).map (cn 13)=iE s.ways (a,b) l (a,b);rw[cJ,cJ,Q]
   ·show (iE d.f (a,b) i k).map (cn 13)=iE s.ways (a,b) l k;rw[bT _ _ j,bT _ _ j];exact h.wy.2.2.1 k
  ·by_cases j:k=(a,b)
   ·subst j;show (iE d.f (a,b) i (a,b)).length<=20;rw[cJ];have:=h.wy.2.2.2.1 (a,b);rw[v]at this;simp at this;omega
   ·show (iE d.f (a,b) i k).length<=20;rw[bT _ _ j];exact h.wy.2.2.2.1 k
  ·have o:g∈iE d.f (a,b) i k:=o;have aa:g∈d.f k:=by
    by_cases j:k=(a,b)
    ·subst j;rw[cJ]at o;rw[v];exact bX _ o
    ·rwa [bT _ _ j]at o
   obtain⟨D,E,F,ad⟩:=K k g aa;exact⟨D,E,F,ad.mono λq O=>⟨O.1,λG=>O.2 (M q G)⟩⟩
  ·rcases u q g with g|g
   ·rw[g,h.own];decide
   ·rw[g];decide
end
theorem sU(d:Nat)(a b:Int)(s i:Bool)(w:World)(p:Int->Int->ByteArray->Option Addr->Nat->Nat->World->Prop)(R:Int->World->Prop)(n:Hid (am 72 #[.pointer (some ⟨d,4,none⟩),ab a,ab b] w λe w'=>(s=true->e=.returned (.tuple #[.agg #[ab 0,ab 0,af ⟨#[]⟩,ae none 0 0],ab 4])/\Hid (∀W,aj w' W->R 4 W))/\(s=false->∃y0 y1 y2 ya yl yc,e=.returned (.tuple #[.agg #[ab y0,ab y1,af y2,ae ya yl yc],ab 0])/\Hid (p y0 y1 y2 ya yl yc w'))))(k:Hid (∀y0 y1 y2 ya yl yc W c,p y0 y1 y2 ya yl yc W->aj W c->am 73 #[aB d,ab b] c λe w'=>e=.returned (.bool i)/\w'=c))(l:Hid (∀y0 y1 y2 ya yl yc W c,p y0 y1 y2 ya yl yc W->aj W c->(i=true->am 74 #[aB d,ab a,ab b,.agg #[ab y0,ab y1,af y2,ae ya yl yc]] c λe w'=>e=.returned (.tuple #[])/\Hid (R 0 w'))/\(i=false->am 68 #[aB d,af ⟨#[108,111,115,116]⟩,ab a,ab b,.agg #[ab y0,ab y1,af y2,ae ya yl yc]] c λe w'=>e=.returned (.tuple #[])/\Hid (R 0 w')))):am 32 #[aB d,ab a,ab b] w λe w'=>∃v,e=.returned (ab v)/\Hid (R v w'):=by
 go_enter func32,ntmps32;go_wp2_with fail;refine n.mono ?_;rintro e f ⟨q,r⟩;cases s;rotate_left
 ·obtain⟨rfl,g⟩:=q rfl;clear q r n k l;go_wp2_with fail
  go_ret
  exact⟨4,rfl,g _ ((ap _ _).alloc (ak _) _)⟩
 obtain⟨y0,y1,y2,ya,yl,yc,rfl,g⟩:=r rfl;clear q r n;have HB:Hid (∀o,aj f (f.alloc o)):=λo=>(ap _ _).alloc (ak _) o;have x:Hid (∀o,(f.alloc o).heap[f.heap.size]?=some o):=λo=>aE f o;go_wp2_with fail;refine(k _ _ _ _ _ _ _ _ g (HB _)).mono ?_;rintro e y ⟨rfl,t⟩;obtain rfl:=t.symm;clear t;have h:=aq (l _ _ _ _ _ _ _ _ g (HB (.cells #[ab y0,ab y1,af y2,ae ya yl yc] 28)));clear k l;cases i
 ·have m:=aq (h.2 rfl);clear h;go_wp2_with fail;refine m.mono ?_;rintro e u ⟨rfl,j⟩;go_wp2_with fail
  go_ret
  exact⟨0,rfl,j⟩
 ·have m:=aq (h.1 rfl);clear h;go_wp2_with fail;refine m.mono ?_;rintro e u ⟨rfl,j⟩;go_wp2_with fail
  go_ret
  exact⟨0,rfl,j⟩
section
variable {p:kQ} {s:Sy} {d:fY} {w:World}
theorem bj.arrive(y:bj p s d w){a b:Int}(z:I2 (a,b))(B:d.wn<999999)(U:d.k<=47000)(S:d.es.length<=97000):am 32 #[aB p.b,ab a,ab b] w λe w'=>∃v,e=.returned (ab v)/\Hid (v=(s.arrive p.room a b).2/\∃c,bj p (s.arrive p.room a b).1 c w'/\fS 101 201 d c w w'):=by
 cases hw:s.ways (a,b)with
 | nil=>
  have e:s.arrive p.room a b=(s,4):=by unfold Sy.arrive;rw[hw]
  rw[e];refine sU p.b a b true false w (λ_ _ _ _ _ _ _=>False) (λv w'=>v=4/\∃c,bj p s c w'/\fS 101 201 d c w w') ((y.takeW z B).mono λe w' j=>⟨λ_=>⟨(j.1 hw).1,λi g=>?_⟩,(λm=>by cases m)⟩) (λ_ _ _ _ _ _ _ _ m=>m.elim) λ_ _ _ _ _ _ _ _ m=>m.elim;have A:=(j.1 hw).2.trans (g.mono (j.1 hw).2.size);exact⟨rfl,d,y.later A,(dT.later d A).un.mono (aI _) (aI _)⟩
 | cons t l=>
  obtain⟨h,C⟩:∃h,h={s with ways:=iE s.ways (a,b) l}:=⟨_,rfl⟩;have e:s.arrive p.room a b=(if (h.get b).isSome then h.deliver p.room a b t else h.tell nY a b t,0):=by unfold Sy.arrive;rw[hw,C]
  rw[e];refine sU p.b a b false (h.get b).isSome w (λy0 y1 y2 ya yl yc i=>∃f:Tc,(f.1=(y0,y1,y2)/\f.2.1=(ya,yc)/\f.2.2.length=yl)/\cn 13 f=t/\bv 13 f=0/\∃c,bj p h c i/\dT 1 d c w i/\In i.heap.size i 13 f/\cd (λj=>¬1<=c.ow j) 13 f) (λv w'=>v=0/\∃c,bj p (if (h.get b).isSome then h.deliver p.room a b t else h.tell nY a b t) c w'/\fS 101 201 d c w w') ((y.takeW z B).mono λe w' j=>⟨(λm=>by cases m),λ_=>?_⟩) ?_ ?_
  ·obtain⟨f,J,K,L,X,c,M,N,O,P⟩:=j.2 t l hw;exact⟨f.1.1,f.1.2.1,f.1.2.2,f.2.1.1,f.2.2.length,f.2.1.2,J,f,⟨rfl,rfl,rfl⟩,K,L,c,by rw[C];exact M,N,O,P⟩
  ·rintro y0 y1 y2 ya yl yc i F ⟨f,_,_,_,c,o,_⟩ g;exact(o.later g).isAlive b
  ·rintro y0 y1 y2 ya yl yc i F ⟨f,⟨f1,f2,f3⟩,D,kc,c,o,r,E,I⟩ g;obtain⟨⟨Y,Z,aa⟩,⟨ad,ae⟩,af⟩:=f;simp only[eG]at f1 f2;obtain⟨rfl,rfl,rfl⟩:=f1;obtain⟨rfl,rfl⟩:=f2;subst f3;have T:=r.2.2.2.1;have V:=r.2.2.1;refine⟨λq=>?_,λq=>?_⟩
   ·obtain⟨v,H⟩:=gA.1 q;obtain⟨W,R,Q⟩:=v;refine((o.later g).deliver z.2 H _ ⟨(E.below g).mono g.size,I⟩ kc (by omega) (by omega)).mono ?_;rintro G w' ⟨rfl,u⟩;obtain⟨d2,n,x⟩:=u.out;rw[D]at n;rw[if_pos q];exact⟨rfl,rfl,d2,n,((r.un.trans (dT.later c g).un).trans x).mono (by omega) (by omega)⟩
   ·refine((o.later g).tell nY a b _ _ _ _ _ _ _ (kp ((E.below g).mono g.size) kc) (by omega)).mono ?_;rintro G w' ⟨rfl,u⟩;obtain⟨d2,n,x⟩:=u.up (o.later g);rw[D]at n;rw[if_neg (by rw[q];decide)];exact⟨rfl,rfl,d2,n,((r.un.trans (dT.later c g).un).trans x.un).mono (by omega) (by omega)⟩
end
end Go.Proofs.YtmmahddlcldmiaaGreatDoor
