/- What is proved here: plain facts and contracts that the claimed theorem stands on. No condition but those that each names. -/
import Derived.Test.YtckamaoibonjcaaGreatG30
import Derived.Deep.DeepAppendWide
import Derived.MapKept
namespace Go.Proofs.YtckamaoibonjcaaGreat
open Go.RowKit
open Go.MapKept
set_option maxRecDepth 100000
set_option maxHeartbeats 4000000
theorem fI{P:Sy->Prop}{a:Type}(f:Sy->a->Sy):(l:List a)->(∀s,∀x∈l,P s->P (f s x))->{s:Sy}->P s->P (l.foldl f s)
 | [],_,_,h=>h
 | x::l,hf,s,h=>fI f l (λs y b=>hf s y (bI _ b)) (hf s x (by simp) h)
theorem Ie{s:Sy}{k:Int}{v:ByteArray×Tc×List Tc}(a:s.get k=some v):∃q∈s.ps,q.2=v:=by
 unfold Sy.get at a;obtain⟨q,b,rfl⟩:=b8.1 a;exact⟨q,List.mem_of_find?_eq_some b,rfl⟩
def oK(s:Sy):Prop:=∀q∈s.ps,q.2.1.size<=8
theorem oK.get{s:Sy}(b:oK s){k:Int}{nm:ByteArray}{r:Tc×List Tc}(c:s.get k=some (nm,r)):nm.size<=8:=by
 obtain⟨e,d,a⟩:=Ie c;have:=b e d;rw[a]at this;exact this
theorem oK.add{s:Sy}(c:oK s)(a:Int){nm:ByteArray}(d:nm.size<=8)(cs:Tc):oK (s.add a nm cs):=λq e=>by
 rcases cU.1 e with b|b
 ·exact c q b
 ·rw[dA.1 b];exact d
theorem oK.drop{s:Sy}(a:oK s)(x how:Int):oK (s.drop x how):=λq b=>a q (List.mem_of_mem_eraseP b)
theorem oK.fin{s:Sy}(a:oK s)(x how:Int):oK (s.fin x how):=fI (λ(s:Sy)(y:Int)=>s.drop y 4) _ (λ_ y _ k=>k.drop y 4) (a.drop x how:)
theorem oK.put{s:Sy}(a:oK s)(k:Int){v:ByteArray×Tc×List Tc}(d:v.1.size<=8):oK (s.put k v):=λq b=>by
 obtain⟨r,c,rfl⟩:=bZ.1 b;split
 ·exact d
 ·exact a r c
theorem oK.deliver{s:Sy}(c:oK s)(room a b:Int)(t:Tc):oK (s.deliver room a b t):=by
 unfold Sy.deliver;split
 ·exact c
 ·split
  ·exact c
  ·split
   ·exact c.fin _ _
   ·split
    ·exact c.put _ (c.get ‹_›)
    ·exact c
theorem vX{k:Nat}{x:Tm k}{room:Int}{nm:ByteArray}(a:fK k x room nm=0):nm.size<=8:=by
 unfold fK at a;split at a
 ·cases a
 ·rename_i b;simp only[dC,pT,Bool.not_eq_false,ay,bT]at b;omega
theorem oK.follow{s:Sy}(d:oK s)(a:Int)(b:Tk)(e:∀x∈b.spawns,x.2.1.size<=8):oK (s.follow a b):=by
 have c:=fI (P:=oK) (λ(s:Sy)(x:Int)=>s.link a x) b.links (λs x _ k=>by unfold Sy.link;split<;>exact k) (fI (P:=oK) (λ(s:Sy)(x:Int×Tc)=>s.send a x.1 x.2) b.sends (λs x _ k=>by unfold Sy.send;split<;>exact k) (fI (P:=oK) (λ(s:Sy)(x:Int×ByteArray×Tc)=>s.add a x.2.1 x.2.2) b.spawns (λ_ x f k=>k.add a (e x f) x.2.2) d));unfold Sy.follow;simp only;split
 ·exact c.fin a 1
 ·exact c
theorem oK.do{n:Nat}{prog:List (Bh (n+1))}{room:Int}{s:Sy}(c:oK s)(j a b:Int)(k:Nat)(x:Tm k):oK (s.do n prog room j a b k x).1:=by
 unfold Sy.do;split
 ·unfold Sy.run;split
  ·exact c
  ·rename_i g o m h;split
   ·split
    ·exact c
    ·rename_i d _;have e:oK ((s.put a (g,d.state,d.mail)).tell ld a 0 d.message):=c.put a (v:=(g,d.state,d.mail)) (c.get h);simp only;split
     ·exact e.fin _ _
     ·split
      ·exact e.fin _ _
      ·rename_i f;simp only[Sy.made,ay,Bool.not_eq_false,bX,b9]at f;exact e.follow a d λx i=>vX (f.2 x i).2
   ·exact c
 ·split
  ·unfold Sy.arrive;split
   ·exact c
   ·rename_i l _;simp only;split
    ·exact oK.deliver (s:={s with ways:=gH s.ways (a,b) l}) c _ _ _ _
    ·exact c
  ·split
   ·unfold Sy.inject;split
    ·exact c
    ·split
     ·exact c
     ·split
      ·exact c
      ·exact c.deliver _ _ _ _
   ·exact c
theorem oK.start{n:Nat}{prog:List (Bh (n+1))}{room:Int}{s:Sy}(a:oK s)(nm:ByteArray)(k:Nat)(x:Tm k):oK (s.start n prog room nm k x).1:=by
 unfold Sy.start;split
 ·exact a
 ·split
  ·exact a
  ·split
   ·exact a
   ·exact a.add 0 (vX (Decidable.not_not.1 ‹_›)) _
def Nh(s:Sy):Prop:=∀a nm cs b,s.get a=some (nm,cs,b)->(bm 13 cs=0/\aF 13 cs=true)/\∀t∈b,bm 13 t=0/\aF 13 t=true
def dB(s:Sy):Prop:=(∀q∈s.ps,q.2.2.2.length<=3)/\∀e∈s.evs,¬(e.1=np/\e.2.2.1=3)
theorem dB.zero:dB ⟨0,[],λ_=> [],λ_=>false,[]⟩:=⟨λ_ a=>(by cases a),λ_ a=>(by cases a)⟩
theorem dB.tell{s:Sy}(d:dB s){wt:ByteArray}{a b:Int}{t:Tc}(g:¬(wt=np/\b=3)):dB (s.tell wt a b t):=by
 refine⟨d.1,λe f=>?_⟩;rcases cU.1 f with c|c
 ·exact d.2 e c
 ·rw[dA.1 c];exact g
theorem rn:xI≠np/\ld≠np/\B5≠np/\mx≠np:=by decide
theorem dB.add{s:Sy}(c:dB s)(a:Int)(nm:ByteArray)(cs:Tc):dB (s.add a nm cs):=by
 have d:dB {s with last:=s.last+1,ps:=s.ps++ [(s.last+1,nm,cs,[])]}:=⟨λf e=>by
  rcases cU.1 e with b|b
  ·exact c.1 f b
  ·rw[dA.1 b]
   exact aB _,c.2⟩
 exact d.tell λb=>rn.1 b.1
theorem dB.drop{s:Sy}(a:dB s)(x:Int){how:Int}(c:how≠3):dB (s.drop x how):=by
 have b:dB {s with ps:=s.ps.eraseP λe=>e.1==x}:=⟨λf d=>a.1 f (List.mem_of_mem_eraseP d),a.2⟩;exact b.tell λg=>c g.2
theorem dB.fin{s:Sy}(b:dB s)(x:Int){how:Int}(c:how≠3):dB (s.fin x how):=
 fI (λ(s:Sy)(a:Int)=>s.drop a 4) _ (λ_ a _ k=>k.drop a (by decide)) (s:={s.drop x how with bonds:=wo s.bonds (x::sG s.bonds x (how==1))}) ⟨(b.drop x c).1,(b.drop x c).2⟩
theorem dB.put{s:Sy}(a:dB s)(k:Int){v:ByteArray×Tc×List Tc}(d:v.2.2.length<=3):dB (s.put k v):=by
 refine⟨λf b=>?_,a.2⟩;obtain⟨e,c,rfl⟩:=bZ.1 b;split
 ·exact d
 ·exact a.1 e c
theorem yA{x:Tc}(a:bm 13 x=0):sz 13 x<=200:=(br.1 a).2.2
theorem Dd:(l:List Tc)->(∀t∈l,bm 13 t=0)->(l.map (sz 13)).sum<=200*(l.length:Int)
 | [],_=>by simp
 | x::l,h=>by
  have b:=yA (h x (by simp));have c:=Dd l λt a=>h t (bI _ a);simp only[aH,bq,aV];omega
theorem dB.deliver{s:Sy}(d:dB s)(m:Nh s)(a b:Int)(t:Tc)(l:∀v,s.get b=some v->v.2.2.length<3):dB (s.deliver 1000 a b t):=by
 unfold Sy.deliver;split
 ·exact d
 ·rename_i n j e g;have h:=l _ g;obtain⟨⟨o,_⟩,p⟩:=m _ _ _ _ g;split
  ·exact d.tell λq=>rn.2.2.2 q.1
  ·split
   ·rename_i c;exfalso;have u:=Dd e λt i=>(p t i).1;have r:=yA o;simp only at h;unfold lD at c;rw[if_neg (by omega)]at c;split at c
    ·rcases vG 13 t with f|f|f<;>omega
    ·rename_i k;have i:=yA (Decidable.not_not.1 k);split at c
     ·cases c
     ·rw[if_pos (by simp only[aH,bq];omega)]at c;cases c
   ·split
    ·refine d.put _ (v:=(n,j,e++ [t])) ?_;simp only at h;simp only[aY,aV,iF];omega
    ·exact d
theorem dB.send{s:Sy}(d:dB s)(a b:Int)(t:Tc):dB (s.send a b t):=by
 unfold Sy.send;split
 ·exact dB.tell (s:={s with ways:=gH s.ways (a,b) (s.ways (a,b)++ [t])}) d λc=>rn.2.2.1 c.1
 ·exact d.tell λc=>rn.2.2.2 c.1
theorem dB.link{s:Sy}(c:dB s)(a b:Int):dB (s.link a b):=by
 unfold Sy.link;split<;>exact c
theorem dB.follow{s:Sy}(e:dB s)(a:Int)(c:Tk):dB (s.follow a c):=by
 have d:=fI (P:=dB) (λ(s:Sy)(b:Int)=>s.link a b) c.links (λ_ b _ k=>k.link a b) (fI (P:=dB) (λ(s:Sy)(b:Int×Tc)=>s.send a b.1 b.2) c.sends (λ_ b _ k=>k.send a b.1 b.2) (fI (P:=dB) (λ(s:Sy)(b:Int×ByteArray×Tc)=>s.add a b.2.1 b.2.2) c.spawns (λ_ b _ k=>k.add a b.2.1 b.2.2) e));unfold Sy.follow;simp only;split
 ·exact d.fin a (by decide)
 ·exact d
theorem Jk{n:Nat}{l:List (Bh (n+1))}{nm:ByteArray}{self next:Int}{cs:Tc}{b:List Tc}{d:Tk}(a:lR 1000 l nm self next cs b=some d)(k:b.length<=3)(g:∀t∈b,bm 13 t=0):d.fate≠3/\d.mail.length<=3:=by
 obtain⟨e,_,a⟩:=bj.1 a;obtain⟨o,_,rfl⟩:=b8.1 a;have j:=List.length_eraseIdx_le b e.1;have m:=Dd (b.eraseIdx e.1) λt c=>g t (List.mem_of_mem_eraseIdx c);unfold eI;split
 ·exact⟨by simp only;decide,by simp only;omega⟩
 ·split
  ·exact⟨by simp only;decide,by simp only;omega⟩
  ·rename_i h _ t c;have f:bm 13 t=0:=by
    unfold qV at c;obtain⟨p,_,a⟩:=bj.1 c;split at a
    ·rw[<-aq a];exact pj ‹_›
    ·cases a
   have i:=yA f;rw[if_pos (by omega)];refine⟨?_,by simp only;omega⟩;simp only;split<;>decide
theorem dB.do{n:Nat}{prog:List (Bh (n+1))}{s:Sy}(c:dB s)(f:Nh s)(h a b:Int)(k:Nat)(x:Tm k)(r:h=2->∀v,s.get b=some v->v.2.2.length<3)(u:h=3->∀v,s.get a=some v->v.2.2.length<3):dB (s.do n prog 1000 h a b k x).1:=by
 unfold Sy.do;split
 ·unfold Sy.run;split
  ·exact c
  ·rename_i m B A i;obtain⟨z,w,o⟩:=Ie i;have j:=c.1 z w;rw[o]at j;split
   ·split
    ·exact c
    ·rename_i d y;obtain⟨p,q⟩:=Jk y j λt e=>((f _ _ _ _ i).2 t e).1;have g:dB ((s.put a (m,d.state,d.mail)).tell ld a 0 d.message):=(c.put a (v:=(m,d.state,d.mail)) q).tell λe=>rn.2.1 e.1;simp only;split
     ·exact g.fin a p
     ·split
      ·exact g.fin a (by decide)
      ·exact g.follow a d
   ·exact c
 ·split
  ·unfold Sy.arrive;split
   ·exact c
   ·rename_i t l _;simp only;split
    ·exact dB.deliver (s:={s with ways:=gH s.ways (a,b) l}) c f a b t (r ‹_›)
    ·exact dB.tell (s:={s with ways:=gH s.ways (a,b) l}) c λe=>rn.2.2.2 e.1
  ·split
   ·unfold Sy.inject;split
    ·exact c
    ·split
     ·exact c
     ·split
      ·exact c
      ·exact c.deliver f 0 a _ (u ‹_›)
   ·exact c
theorem dB.start{n:Nat}{prog:List (Bh (n+1))}{room:Int}{s:Sy}(a:dB s)(nm:ByteArray)(k:Nat)(x:Tm k):dB (s.start n prog room nm k x).1:=by
 unfold Sy.start;split
 ·exact a
 ·split
  ·exact a
  ·split
   ·exact a
   ·exact a.add 0 nm _
variable {P:Program} {md:Region.Mode} {ops:Array Oper} {Q:Exit->Act->World->Prop} {S:World->Prop} {X:Nat}
theorem JQ(i:Nat){d:Oper}{v:Value}{f:Nat}{e:Array Bool}{a:Act}{w:World}(l:ops[i]?=some d)(b:(Region.noSelect ops && Region.free md ops e i && (Region.ready md ops e).contains i && yM md ops X i)=true)(h:∀c a w,Q (.panic c) (a.put d.dst v) w->Q (.panic c) a w)(k:d.guard=none)(m:∀w,S w->(execOp a.eval d).run P w=.ok (.value v) w)(j:S w)(g:js P md ops Q S X f (e.setIfInBounds i true) (a.put d.dst v) w):js P md ops Q S X (f+1) e a w:=by
 simp only[ay]at b;exact aM l b.1.1.1 b.1.1.2 b.1.2 b.2 h k m j g
theorem Ig:(Tryz.prog.info? 40).map (λi=>(i.zero,i.size,i.bytes))=some (some (.agg #[.string ⟨#[]⟩,.int .i64 0,.int .i64 0,.int .i64 0,.int .i64 0,.string ⟨#[]⟩,.slice none 0 0]),7,88):=by kernel_rfl
def LG(base:Nat)(wt:ByteArray)(a b:Int)(f:Option Addr)(L h:Nat)(xs:List Value)(R:World->World->Int->Int->ByteArray->Option Addr->Nat->Nat->Prop)(w i:World)(g c:Nat):Prop:=
 ∃d e y0 y1 y2 ya yl yc,Below w.heap.size w d/\Below d.heap.size d e/\R d e y0 y1 y2 ya yl yc/\bi (λj=>(Value.slice f L h).ownBlock=some j) e i/\i.ownsRow base 40 7 (.slice (some ⟨g,0,none⟩) (L+1) c) (L+1) (xs++ [.string wt,.int .i64 a,.int .i64 b,.int .i64 y0,.int .i64 y1,.string y2,.slice ya yl yc])/\((Value.slice f L h).ownBlock=some g\/e.heap.size<=g)
theorem Dc(base m:Nat)(wt:ByteArray)(a b A B:Int)(C:ByteArray)(xa:Option Addr)(D xc:Nat)(n:Option Addr)(L q:Nat)(xs:List Value)(R:World->World->Int->Int->ByteArray->Option Addr->Nat->Nat->Prop)(w:World)(aU:L<=100000)(X:m<w.heap.size)(aV:base<=w.heap.size)(Z:Hid (w.cell? ⟨m,6,none⟩=some (.slice n L q)/\w.frozen? ⟨m,6,none⟩=false))(ah:Hid (w.ownsRow base 40 7 (.slice n L q) L xs))(ad:Hid ((Value.slice n L q).ownBlock≠some m))(aa:Hid (∀W,Below w.heap.size w W->Calls Tryz.prog 54 #[.agg #[.int .i64 A,.int .i64 B,.string C,.slice xa D xc]] W λe w'=>∃y0 y1 y2 ya yl yc,e=.returned (.agg #[.int .i64 y0,.int .i64 y1,.string y2,.slice ya yl yc])/\Hid (Below W.heap.size W w'/\R W w' y0 y1 y2 ya yl yc))):Calls Tryz.prog 44 #[.pointer (some ⟨m,0,none⟩),.string wt,.int .i64 a,.int .i64 b,.agg #[.int .i64 A,.int .i64 B,.string C,.slice xa D xc]] w λe w'=>e=.returned (.tuple #[])/\Hid (∃g c r,w'=r.setCell ⟨m,6,none⟩ (.slice (some ⟨g,0,none⟩) (L+1) c)/\LG base wt a b n L q xs R w r g c):=by
 obtain⟨aK,aq,aw,ay,az⟩:=bO Ig;have M:=aj (⟨aq,aw,ay,az⟩:_/\_/\_/\_);clear aq aw ay az;go_enter Tryz.func44,Tryz.ntmps44;go_upto_region 1 with fail;generalize aB:w.alloc _=s;have y:Hid (Below w.heap.size w s/\s.heap[w.heap.size]?=some (.cells #[.int .i64 A,.int .i64 B,.string C,.slice xa D xc] 30)):=by
  rw[<-aB];exact⟨(ak _ _).alloc (ai _) _,ax _ _⟩
 clear aB;obtain⟨h,T⟩:∃h,h=w.heap.size:=⟨_,rfl⟩;rw[<-T];rw[<-T]at y;have O:=aj T;clear T;have N:Hid (∀W:World,Below s.heap.size s W->W.cell? ⟨m,6,none⟩=some (.slice n L q)/\W.cell? ⟨h,0,none⟩=some (.int .i64 A)/\W.cell? ⟨h,1,none⟩=some (.int .i64 B)/\W.cell? ⟨h,2,none⟩=some (.string C)/\W.cell? ⟨h,3,none⟩=some (.slice xa D xc)):=λW d=>by
  have Q:=(d.block h (aA.1 y.out.2).1).trans y.out.2;have aF:=(O.out▸y.out.1:Below w.heap.size w s).trans (d.mono (O.out▸y.out.1:Below w.heap.size w s).size);exact⟨(aF.cell (p:=⟨m,6,none⟩) X).trans Z.out.1,ab Q 0,ab Q 1,ab Q 2,ab Q 3⟩
 have G:Hid (Below s.heap.size s s.drew):=(ak _ _).drew;have z:Hid (Below w.heap.size w s):=by
  have d:=y.out.1;rw[O.out]at d;exact d
 have u:=N.out _ G.out;refine wp_region_noPanic ?_;refine iZ (λW=>W.cell? ⟨m,6,none⟩=some (.slice n L q)/\W.cell? ⟨h,0,none⟩=some (.int .i64 A)/\W.cell? ⟨h,1,none⟩=some (.int .i64 B)/\W.cell? ⟨h,2,none⟩=some (.string C)/\W.cell? ⟨h,3,none⟩=some (.slice xa D xc)) 15 (by kernel_rfl) ?_
 try simp only[eR]
 refine JQ 0 (v:= ?_) rfl (by kernel_rfl) (λ_ _ _ d=>d) rfl ?_ u ?_;rotate_left
 ·intro w' f
  try dsimp only at f
  go_simp
  try with_reducible rfl
 try simp only[Act.put,bP]
 refine JQ 1 (v:= ?_) rfl (by kernel_rfl) (λ_ _ _ d=>d) rfl ?_ u ?_;rotate_left
 ·intro w' f
  try dsimp only at f
  go_simp
  try with_reducible rfl
 try simp only[Act.put]
 refine JQ 2 (v:= ?_) rfl (by kernel_rfl) (λ_ _ _ d=>d) rfl ?_ u ?_;rotate_left
 ·intro w' f
  try dsimp only at f
  go_simp
  try with_reducible rfl
 try simp only[Act.put]
 refine JQ 3 (v:= ?_) rfl (by kernel_rfl) (λ_ _ _ d=>d) rfl ?_ u ?_;rotate_left
 ·intro w' f
  try dsimp only at f
  go_simp
  try with_reducible rfl
 try simp only[Act.put]
 refine JQ 4 (v:= ?_) rfl (by kernel_rfl) (λ_ _ _ d=>d) rfl ?_ u ?_;rotate_left
 ·intro w' f
  try dsimp only at f
  go_simp
  try with_reducible rfl
 try simp only[Act.put]
 refine JQ 5 (v:= ?_) rfl (by kernel_rfl) (λ_ _ _ d=>d) rfl ?_ u ?_;rotate_left
 ·intro w' f
  try dsimp only at f
  go_simp
  try with_reducible rfl
 try simp only[Act.put]
 refine JQ 6 (v:= ?_) rfl (by kernel_rfl) (λ_ _ _ d=>d) rfl ?_ u ?_;rotate_left
 ·intro w' f
  try dsimp only at f
  go_simp
  try with_reducible rfl
 try simp only[Act.put]
 refine JQ 7 (v:= ?_) rfl (by kernel_rfl) (λ_ _ _ d=>d) rfl ?_ u ?_;rotate_left
 ·intro w' f
  try dsimp only at f
  go_simp
  try with_reducible rfl
 try simp only[Act.put]
 refine JQ 8 (v:= ?_) rfl (by kernel_rfl) (λ_ _ _ d=>d) rfl ?_ u ?_;rotate_left
 ·intro w' f
  try dsimp only at f
  go_simp
  try with_reducible rfl
 try simp only[Act.put]
 refine cP (i:=9) (by kernel_rfl) rfl rfl (λx l=>?_) (by decide)
 go_simp
 refine(aa.out _ (z.out.trans (G.out.mono z.out.size))).mono ?_;rintro e j ⟨y0,y1,y2,ya,yl,yc,rfl,I⟩;have E:=aj (G.out.trans (I.out.1.mono G.out.size));have S:=N.out j E.out;refine l.out _ _ (λ_=>S) (λ_=>?_);clear l x
 try simp only[Act.put,bP,da,cZ]
 refine JQ 10 (v:= ?_) rfl (by kernel_rfl) (λ_ _ _ d=>d) rfl ?_ S ?_;rotate_left
 ·intro w' f
  try dsimp only at f
  go_simp
  try with_reducible rfl
 try simp only[Act.put,bP]
 have F:=aj (z.out.trans (E.out.mono z.out.size));obtain⟨o,ar⟩:∃o:Obj,o=.cells #[.string wt,.int .i64 a,.int .i64 b,.int .i64 y0,.int .i64 y1,.string y2,.slice ya yl yc] 40:=⟨_,rfl⟩;have K:Hid (Below j.heap.size j (j.alloc o)):=(ak _ _).alloc (ai _) o;have al:=aj (N.out _ (E.out.trans (K.out.mono E.out.size)));have af:Hid ((j.alloc o).ownsRow base 40 7 (.slice n L q) L xs):=aW ah.out (aE (F.out.trans (K.out.mono F.out.size)) λ_=>False) λ_ _ d=>d;have ae:Hid ((j.alloc o).heap[j.heap.size]?=some o):=ax j o;have U:Hid ((j.alloc o).heap.size=j.heap.size+1):=(show _=_ by simp);rw[ar]at K al af ae U;clear ar o;refine cP (i:=11) (by kernel_rfl) rfl rfl (λx l=>?_) (by decide)
 go_simp
 refine l.out _ _ (λ_=>al.out) (λaD=>?_);clear l x
 try simp only[Act.put,bP,da,cZ]
 refine cP (i:=12) (by kernel_rfl) rfl rfl (λx l=>?_) (by decide);refine wp_append_lies _ _ _ 38 rfl base 40 aK _ 7 88 Tryz.underlying38 M.out.1 M.out.2.1 M.out.2.2.1 M.out.2.2.2 rfl (by decide) (.slice n L q) L xs rfl af.out ⟨j.heap.size,0,none⟩ 1 1 [.string wt,.int .i64 a,.int .i64 b,.int .i64 y0,.int .i64 y1,.string y2,.slice ya yl yc] rfl rfl (World.news_of_block (cs:= #[.string wt,.int .i64 a,.int .i64 b,.int .i64 y0,.int .i64 y1,.string y2,.slice ya yl yc]) (t:=40) (fr:=(0,0)) ae.out) (by simp[Value.oneCell']) (by decide) (by unfold maxLen;omega) (by omega) (by have:=U.out;have:=F.out.size;omega) _ rfl ?_;intro P am r au ap an aG;have H:Hid (bi (λaM=>(Value.slice n L q).ownBlock=some aM) j r):=bi.trans (aE K.out _) (dP ap) λ_ _ e=>e;have Y:Hid ((Value.slice n L q).ownBlock=some P\/j.heap.size<=P):=an.imp id λe=>by have:=U.out;omega
 have ag:=aj au;have J:Hid ((r.cell? ⟨m,6,none⟩=some (.slice n L q)/\r.cell? ⟨h,0,none⟩=some (.int .i64 A)/\r.cell? ⟨h,1,none⟩=some (.int .i64 B)/\r.cell? ⟨h,2,none⟩=some (.string C)/\r.cell? ⟨h,3,none⟩=some (.slice xa D xc))/\r.frozen? ⟨m,6,none⟩=false):=by
  have aH:¬(Value.slice n L q).ownBlock=some h:=λe=>by
   have:=(ah.out.lt h e).2;have:=O.out;omega
  have aI:h<j.heap.size:=by
   have:=E.out.size;have:=(aA.1 y.out.2).1;omega
  have av:m<j.heap.size:=aJ X F.out.size;obtain⟨aN,aO,aP,aQ,aR⟩:=S;have k:=λaL=>H.out.cell aL aI aH;refine⟨⟨(H.out.cell 6 av ad.out).trans aN,(k 0).trans aO,(k 1).trans aP,(k 2).trans aQ,(k 3).trans aR⟩,?_⟩;have ao:=Z.out.2;unfold World.frozen? at ao ⊢;rw[H.out.block m av ad.out,F.out.block m X];exact ao
 clear au ap an aG;refine l.out _ _ (λ_=>J.out.1) (λV=>?_);clear l x
 try simp only[Act.put,bP]
 refine cP (i:=13) (by kernel_rfl) rfl rfl (λx l=>?_) (by decide)
 go_simp
 refine l.out _ _ (λ_=>V) (λ_=>?_);clear l x
 try simp only[Act.put,bP,da,cZ]
 refine JQ 14 (v:= ?_) rfl (by kernel_rfl) (λ_ _ _ d=>d) rfl ?_ V ?_;rotate_left
 ·intro w' f
  try dsimp only at f
  go_simp
  try with_reducible rfl
 try simp only[Act.put,bP]
 have aT:=J.out.2;have aS:=J.out.1.1;refine iY (by kernel_rfl) rfl rfl (by kernel_rfl) (λx l=>?_)
 go_simp
 refine l.out _ _ (NoPanic.normal ?_);clear l x
 try simp only[Act.put,bP,da,cZ]
 have aC:Hid (LG base wt a b n L q xs R w r P am):=⟨s.drew,j,y0,y1,y2,ya,yl,yc,z.out.trans (G.out.mono z.out.size),I.out.1,I.out.2,H.out,ag.out,Y.out⟩;clear N aa J ag Y H I u V aD S;exact dM (v:=.tuple #[]) (by simp[results]) rfl ⟨rfl,P,am,r,rfl,aC.out⟩
def yR(b:Nat):Value:=.pointer (some ⟨b,0,none⟩)
def vb{b:Type}(f:b->Value)(w:World)(c:Nat)(l:List (Int×b)):Prop:=∃es a,w.heap[c]?=some (.map es a)/\es.toList.map (λe=>(e.key,e.val))=l.map (λp=>(.int .i64 p.1,f p.2))/\Stamped es a
def cJ{a:Type}(l:List (Int×a))(k:Int):Option a:=(l.find? λp=>p.1==k).map (·.2)
section
variable {α:Type} {f:α->Value}
theorem DX(k:Int):(es:List MapEntry)->(l:List (Int×α))->(i:Nat)->es.map (λe=>(e.key,e.val))=l.map (λp=>(.int .i64 p.1,f p.2))-> Instr.findNow (.int .i64) (.int .i64 k) es i=some ((l.findIdx? (λp=>p.1==k)).map λj=>(i+j,((cJ l k).map f).getD undef))
 | [],[],_,_=>rfl
 | [],_::_,_,h=>by simp at h
 | _::_,[],_,h=>by simp at h
 | e::es,p::l,i,h=>by
  rw[aH,aH,List.cons.injEq]at h;obtain⟨b,g⟩:=h;have d:e.key=.int .i64 p.1:=(Prod.mk.inj b).1;have n:e.val=f p.2:=(Prod.mk.inj b).2;have ih:=DX k es l (i+1) g;by_cases a:p.1=k
  ·have c:(k==p.1)=true:=by simp[a]
   simp[Instr.findNow,Instr.sameNow,d,n,a,List.findIdx?_cons,cJ]
  ·have c:(k==p.1)=false:=by simpa using λe=>a e.symm
   have m:(p.1==k)=false:=by simpa using a
   rw[Instr.findNow,d];simp only[Instr.sameNow,cH,c];rw[ih];simp only[List.findIdx?_cons,cJ,jb,m];congr 1;cases List.findIdx? (λp=>p.1==k) l with
   | none=>rfl
   | some j=>simp;omega
theorem mC{w:World}{es:Array MapEntry}{l:List (Int×α)}(k:Int)(b:es.toList.map (λe=>(e.key,e.val))=l.map λp=>(.int .i64 p.1,f p.2)):(Instr.findKey 3 (.int .i64 k) es.toList).run Tryz.prog w=.ok ((l.findIdx? (λp=>p.1==k)).map λj=>(j,((cJ l k).map f).getD undef)) w:=by
 have c:=Tryz.underlying3;have a:=DX k es.toList l 0 b;simp only[cN]at a;simp[Instr.findKey,cd c,Result.andThen,a]
theorem ku(w:World)(em:Bool)(k:Int):(Instr.checkKey em 10000 3 (.int .i64 k)).run Tryz.prog w=.ok () w:=by
 have a:=Tryz.underlying3;unfold Instr.checkKey;simp[cd a,Result.andThen]
theorem xL{l:List (Int×α)}{k:Int}(a:cJ l k=none):l.findIdx? (λp=>p.1==k)=none:=by
 unfold cJ at a;rw[oz];intro p b;rw[Option.map_eq_none_iff,oy]at a;simpa using a p b
theorem KF{l:List (Int×α)}{k:Int}{b:α}(a:cJ l k=some b):∃j,l.findIdx? (λp=>p.1==k)=some j:=by
 cases e:l.findIdx? (λp=>p.1==k)with
 | some j=>exact⟨j,rfl⟩
 | none=>
  unfold cJ at a;rw[oz]at e;have:l.find? (λp=>p.1==k)=none:=oy.2 λp c=>by simpa using e p c
  rw[this]at a;cases a
variable {w:World} {mb mt et:Nat} {l:List (Int×α)}
theorem vb.look(i:vb f w mb l)(h:Tryz.prog.underlying mt=some (.map 3 et)){e:Value}(n:(zeroValue et).run Tryz.prog w=.ok e w)(k:Int)(c:Bool):(cJ l k=none->(Instr.lookup mt (.map (some mb)) (.int .i64 k) c).run Tryz.prog w=.ok (if c then .tuple #[e,.bool false]else e) w)/\ ∀b,cJ l k=some b->(Instr.lookup mt (.map (some mb)) (.int .i64 k) c).run Tryz.prog w=.ok (if c then .tuple #[f b,.bool true]else f b) w:=by
 obtain⟨es,o,g,j,_⟩:=i;have d:=mC (w:=w) k j;refine⟨λa=>?_,λb a=>?_⟩
 ·rw[xL a]at d;simp[Instr.lookup,cd h,jZ g,ku,d,Result.andThen,n]
 ·obtain⟨p,m⟩:=KF a;rw[m]at d;simp[Instr.lookup,cd h,jZ g,ku,d,Result.andThen,a]
theorem vb.put(m:vb f w mb l)(o:Tryz.prog.underlying mt=some (.map 3 et)){k:Int}(i:cJ l k=none)(b:α):∃w',(Instr.mapUpdate mt (.map (some mb)) (.int .i64 k) (f b)).run Tryz.prog w=.ok () w'/\vb f w' mb (l++ [(k,b)])/\bi (λq=>q=mb) w w'/\w'.heap.size=w.heap.size:=by
 obtain⟨es,u,a,e,n⟩:=m;have h:=mC (w:=w) k e;rw[xL i]at h;refine⟨_,by simp[Instr.mapUpdate,cd o,jZ a,ku,h,MapKept.run_setObj_map _ a,Result.andThen];rfl,⟨_,_,(heap_set a).1,?_,stamped_push n λg s j=>?_⟩,?_,?_⟩
 ·simp[e]
 ·have t:(g.key,g.val)∈l.map λc=>(Value.int .i64 c.1,f c.2):=e▸bZ.2 ⟨g,s,rfl⟩;obtain⟨c,p,d⟩:=bZ.1 t;rw[j]at d;have:=oz.1 (xL i) c p;simp at d;simp[d.1]at this
 ·exact⟨rfl,rfl,rfl,by simp,λq _ r=>(heap_set a).2 q r⟩
 ·simp
theorem Ad{α a:Type}(f:α->a)(l:List α)(i:Nat):(l.map f).eraseIdx i=(l.eraseIdx i).map f:=by
 simp[rP,List.map_take,List.map_drop]
theorem vb.del(m:vb f w mb l)(j:Tryz.prog.underlying mt=some (.map 3 et))(k:Int):∃w',(∀ty,(Builtin.delete_ #[mt,3] ty #[.map (some mb),.int .i64 k]).run Tryz.prog w=.ok (.tuple #[]) w')/\vb f w' mb (l.eraseP λp=>p.1==k)/\bi (λq=>q=mb) w w'/\w'.heap.size=w.heap.size:=by
 obtain⟨es,h,a,b,i⟩:=m;have c:=mC (w:=w) k b;cases e:l.findIdx? (λp=>p.1==k)with
 | none=>
  rw[e]at c;refine⟨{w with heap:=w.heap.setIfInBounds mb (.map es h)},λty=>by simp[Builtin.delete_,cd j,jZ a,ku,c,MapKept.run_setObj_map _ a,Result.andThen],⟨_,_,(heap_set a).1,?_,i⟩,?_,?_⟩
  ·rw[List.eraseP_of_forall_not λp r=>by have:=oz.1 e p r;rw[this];decide];exact b
  ·exact⟨rfl,rfl,rfl,by simp,λq _ d=>(heap_set a).2 q d⟩
  ·simp
 | some g=>
  rw[e]at c;refine⟨{w with heap:=w.heap.setIfInBounds mb (.map (es.eraseIdxIfInBounds g) h)},λty=>by simp[Builtin.delete_,cd j,jZ a,ku,c,MapKept.run_setObj_map _ a,Result.andThen],⟨_,_,(heap_set a).1,?_,stamped_erase i g⟩,?_,?_⟩
  ·have o:g<es.size:=by
     have s:=(List.findIdx?_eq_some_iff_getElem.1 e).1;have n:=congrArg List.length b;simp at n;omega
   rw[List.eraseP_eq_eraseIdx,e];simp only[Array.eraseIdxIfInBounds,o,dite_true,Array.toList_eraseIdx];rw[<-Ad,<-Ad,b]
  ·exact⟨rfl,rfl,rfl,by simp,λq _ d=>(heap_set a).2 q d⟩
  ·simp
theorem vb.len(a:vb f w mb l)(e:Tryz.prog.underlying mt=some (.map 3 et))(ty:TypeId):(Builtin.len_ #[mt] ty #[.map (some mb)]).run Tryz.prog w=.ok (.int .i64 l.length) w:=by
 obtain⟨es,g,b,c,_⟩:=a;have d:es.size=l.length:=by
  have:=congrArg List.length c;simpa using this
 simp[Builtin.len_,cd e,jZ b,Result.andThen,d];unfold goInt
 go_num
theorem vb.kept{w':World}(b:vb f w mb l)(e:w'.heap[mb]?=w.heap[mb]?):vb f w' mb l:=by
 obtain⟨es,a,c,d⟩:=b;exact⟨es,a,e.trans c,d⟩
theorem vb.new(w:World):vb f (w.alloc (.map #[] 0)) w.heap.size []:=⟨#[],0,ax _ _,rfl,stamped_empty 0⟩
end
abbrev IM(w:World)(a:Nat)(l:List (Int×Nat)):Prop:=vb yR w a l
theorem IM.look{w:World}{a:Nat}{l:List (Int×Nat)}(d:IM w a l)(k:Int)(c:Bool):(cJ l k=none->(Instr.lookup 62 (.map (some a)) (.int .i64 k) c).run Tryz.prog w=.ok (if c then .tuple #[.pointer none,.bool false]else .pointer none) w)/\ ∀b,cJ l k=some b->(Instr.lookup 62 (.map (some a)) (.int .i64 k) c).run Tryz.prog w=.ok (if c then .tuple #[yR b,.bool true]else yR b) w:=
 vb.look d Tryz.underlying62 (by kernel_rfl) k c
theorem Cj(w:World)(k:Int)(c:Bool):(Instr.lookup 62 (.map none) (.int .i64 k) c).run Tryz.prog w=.ok (if c then .tuple #[.pointer none,.bool false]else .pointer none) w:=by
 have b:=Tryz.underlying62;have d:(zeroValue 60).run Tryz.prog w=.ok (.pointer none) w:=by kernel_rfl
 have a:=mC (f:=yR) (w:=w) (es:= #[]) (l:=[]) k rfl;simp[Instr.lookup,cd b,ku,a,Result.andThen,d]
structure lh where
 lo:Nat
 b:Nat
 room:Int
 n:Nat
 prog:List (Bh (n+1))
 pa:Option Addr
 pc:Nat
structure gf where
 ow:Nat->Int
 po:Option Nat
 l:List (Int×Nat)
 wo:Option Nat
 wn:Nat
 f:Int×Int->List Tc
 sl:Int×Int->Value
 bo:Option Nat
 bn:Nat
 ev:Value
 es:List (ByteArray×Int×Int×Tc)
 k:Nat
def dK(p:lh)(s:Sy)(d:gf):Array Value:= #[.slice p.pa p.prog.length p.pc,.int .i64 p.room,.int .i64 s.last,.map d.po,.map d.wo,.map d.bo,d.ev]
def yS(p:lh)(s:Sy)(d:gf):BL:=⟨p.b,4,dK p s d,70⟩
def LK(p:lh)(s:Sy)(d:gf):BL:=⟨p.b,5,dK p s d,70⟩
def GK(e:ByteArray×Int×Int×Tc):List Value:=[.string e.1,.int .i64 e.2.1,.int .i64 e.2.2.1,.int .i64 e.2.2.2.1.1,.int .i64 e.2.2.2.1.2.1,.string e.2.2.2.1.2.2,.slice e.2.2.2.2.1.1 e.2.2.2.2.2.length e.2.2.2.2.1.2]
def zN(t:Tc):Prop:=bm 13 t=0\/(t.1=(0,0,⟨#[]⟩)/\t.2.2=[])
structure aX (p:lh) (s:Sy) (d:gf) (w:World):Prop where
 low:∀b,d.ow b≠0->p.lo<=b/\b<w.heap.size
 box:w.heap[p.b]?=some (.cells (dK p s d) 70)
 own:d.ow p.b=-5
 pg:(gF (p.n+1) w.heap.size w p.pa p.prog/\sD (jt (p.n+1) λb=>d.ow b=-4) (λb=>d.ow b=-4) p.pa p.prog)/\(p.prog.length<=p.pc/\p.pc<=maxLen/\mZ p.n p.prog=0/\(ar (p.n+6) (bR p.n p.prog)).length<=2097152)
 pm:(d.po=none/\d.l=[])\/∃mb,d.po=some mb/\d.ow mb=-5/\mb≠p.b/\IM w mb d.l
 keys:d.l.map (·.1)=s.ps.map (·.1)/\(s.ps.map (·.1)).Nodup/\(∀q∈s.ps,1<=q.1/\q.1<=s.last)/\0<=s.last/\s.last<=90/\s.ps.length<=12
 ps:∀k b,cJ d.l k=some b->∃nm cs cms,s.get k=some (nm,cs,cms)/\P1 p.lo b nm p.room cs cms (d.k+201) (λq=>d.ow q=k) w/\cms.length<=20
 wy:gI p.lo (yS p s d) d.wo d.wn 13 d.f d.sl w/\(∀b,qR (yS p s d) d.wo d.sl b->b=p.b\/d.ow b=-1)/\(∀k,(d.f k).map (cn 13)=s.ways k)/\(∀k,(d.f k).length<=20)/\∀k,∀y∈d.f k,bm 13 y=0/\aF 13 y=true/\In w.heap.size w 13 y/\bV (λb=>d.ow b=-1/\¬qR (yS p s d) d.wo d.sl b) 13 y
 bd:ek p.lo (LK p s d) d.bo d.bn s.bonds w/\yV s.bonds/\∀b,d.bo=some b->d.ow b=-2
 evr:w.ownsRow p.lo 40 7 d.ev d.es.length (d.es.flatMap GK)/\∀b,d.ev.ownBlock=some b->d.ow b=-3
 evt:d.es.map (λe=>(e.1,e.2.1,e.2.2.1,cn 13 e.2.2.2))=s.evs/\∀e∈d.es,(In w.heap.size w 13 e.2.2.2/\bV (λb=>d.ow b=-3/\d.ev.ownBlock≠some b) 13 e.2.2.2)/\zN e.2.2.2
theorem eJ{S D:Nat->Prop}{w w':World}(c:bi S w w')(e:∀b,D b->¬S b){n:Nat}{x:Tm n}(a:In w.heap.size w n x/\bV D n x):In w'.heap.size w' n x/\bV D n x:=
 ⟨(In.off (P:=λb=>D b/\b<w.heap.size) (λb d=>c.block b d.2 (e b d.1)) (In.offB a.2 a.1) a.1).mono c.size,a.2⟩
theorem Fc{l:List (Int×Nat)}{k:Int}{b:Nat}(a:cJ l k=some b):(k,b)∈l:=by
 unfold cJ at a;cases c:l.find? (λe=>e.1==k)with
 | none=>rw[c]at a;cases a
 | some e=>
  rw[c]at a;have f:=List.mem_of_find?_eq_some c;have d:=List.find?_some c;simp at a d;subst a d;exact f
theorem aX.key{p:lh}{s:Sy}{d:gf}{w:World}(a:aX p s d w){k:Int}{b:Nat}(e:cJ d.l k=some b):1<=k/\k<=s.last:=by
 have c:k∈d.l.map (·.1):=bZ.2 ⟨_,Fc e,rfl⟩;rw[a.keys.1]at c;obtain⟨g,f,rfl⟩:=bZ.1 c;exact a.keys.2.2.1 g f
theorem gI.turn{base:Nat}{p e:BL}{d:Option Nat}{n N:Nat}{f:Int×Int->List (Tm N)}{sl:Int×Int->Value}{w w':World}(c:gI base p d n N f sl w){S:Nat->Prop}(o:bi S w w')(l:∀b,qR p d sl b->b≠p.b->¬S b)(q:e.b=p.b)(j:sB e d w'):gI base e d n N f sl w':=by
 refine⟨by rw[q];exact c.1,j,?_⟩;rcases c.2.2 with a|⟨r,rfl,m⟩
 ·exact ae a
 ·refine af ⟨r,rfl,m.kee o λb g=>l b (DV g) λa=>?_⟩;rcases g with rfl|⟨k,h,i⟩
  ·exact uY c a.symm
  ·exact yP c h (by rw[i,a])
theorem ek.turn{base:Nat}{p c:BL}{a:Option Nat}{n:Nat}{g:Int×Int->Bool}{w w':World}(d:ek base p a n g w){S:Nat->Prop}(j:bi S w w')(i:∀b:Nat,a=Option.some b->¬S b)(k:c.b=p.b)(h:sB c a w'):ek base c a n g w':=by
 refine⟨by rw[k];exact d.1,h,?_⟩;rcases d.2.2 with f|⟨e,rfl,l⟩
 ·exact ae f
 ·exact af ⟨e,rfl,l.kee j (i e rfl)⟩
section
variable {p:lh} {s:Sy} {d:gf} {w w':World} {ow:Nat->Int} {S:Nat->Prop}
theorem aX.pgK(e:aX p s d w)(f:bi S w w')(g:∀b,d.ow b=-4->¬S b)(h:∀b,d.ow b≠0->ow b=d.ow b):gF (p.n+1) w'.heap.size w' p.pa p.prog/\sD (jt (p.n+1) λb=>ow b=-4) (λb=>ow b=-4) p.pa p.prog:=by
 have c:=cq (dI (p.n+1)) 2 (oM (p.n+1)) p.pa;exact⟨c.2.2.2.1 _ _ _ _ f.size (c.2.2.1 _ _ _ w' _ (λb a=>f.block b a.2 (g b a.1)) (c.2.1 _ _ _ _ e.pg.1.2 e.pg.1.1) e.pg.1.1),c.1 _ _ _ (λb a=>(h b (by rw[a];decide)).trans a) e.pg.1.2⟩
theorem aX.pmK(f:aX p s d w)(k:bi S w w')(j:∀b,d.ow b=-5->b≠p.b->¬S b)(m:∀b,d.ow b≠0->ow b=d.ow b):(d.po=none/\d.l=[])\/∃a,d.po=some a/\ow a=-5/\a≠p.b/\IM w' a d.l:=by
 rcases f.pm with g|⟨a,h,c,e,i⟩
 ·exact ae g
 ·exact af ⟨a,h,(m a (by rw[c];decide)).trans c,e,i.kept (k.block a (f.low a (by rw[c];decide)).2 (j a c e))⟩
theorem aX.psK(f:aX p s d w)(c:bi S w w'){k:Int}{b j:Nat}(o:d.k<=j)(n:∀b,d.ow b=k->¬S b)(t:∀b,d.ow b≠0->ow b=d.ow b)(r:∀b,ow b≠0->p.lo<=b/\b<w'.heap.size)(g:cJ d.l k=some b):∃nm cs a,s.get k=some (nm,cs,a)/\P1 p.lo b nm p.room cs a (j+201) (λq=>ow q=k) w'/\a.length<=20:=by
 obtain⟨nm,cs,a,h,i,m⟩:=f.ps k b g;have u:=(f.key g).1;exact⟨nm,cs,a,h,(i.kept (S:=S) ⟨c.os,c.tape,c.output,c.size,c.block⟩ n).mono (λb e=>(t b (by rw[e];omega)).trans e) (Nat.add_le_add_right o 201) λb e=>r b (by rw[e];omega),m⟩
theorem aX.wyK(e:aX p s d w)(j:bi S w w')(i:∀b,d.ow b=-1->¬S b)(l:∀b,d.ow b≠0->ow b=d.ow b){q:BL}(m:q.b=p.b)(o:sB q d.wo w'):gI p.lo q d.wo d.wn 13 d.f d.sl w'/\(∀b,qR q d.wo d.sl b->b=p.b\/ow b=-1)/\∀k,∀y∈d.f k,bm 13 y=0/\aF 13 y=true/\In w'.heap.size w' 13 y/\bV (λb=>ow b=-1/\¬qR q d.wo d.sl b) 13 y:=by
 have h:∀b,qR q d.wo d.sl b ↔ qR (yS p s d) d.wo d.sl b:=λb=>by
  unfold qR;rw[m];exact Iff.rfl
 refine⟨e.wy.1.turn j (λb c r=>?_) m o,λb c=>(e.wy.2.1 b ((h b).1 c)).imp id λa=>(l b (by rw[a];decide)).trans a,λk y t=>?_⟩
 ·rcases e.wy.2.1 b c with a|a
  ·exact absurd a r
  ·exact i b a
 ·obtain⟨y1,y2,u⟩:=e.wy.2.2.2.2 k y t;have n:=eJ j (λb q=>i b q.1) u;exact⟨y1,y2,n.1,n.2.mono λb g=>⟨(l b (by rw[g.1];decide)).trans g.1,λc=>g.2 ((h b).1 c)⟩⟩
theorem aX.bdK(a:aX p s d w)(g:bi S w w')(f:∀b,d.ow b=-2->¬S b)(h:∀b,d.ow b≠0->ow b=d.ow b){q:BL}(i:q.b=p.b)(e:sB q d.bo w'):ek p.lo q d.bo d.bn s.bonds w'/\yV s.bonds/\∀b,d.bo=some b->ow b=-2:=
 ⟨a.bd.1.turn g (λb c=>f b (a.bd.2.2 b c)) i e,a.bd.2.1,λb c=>(h b (by rw[a.bd.2.2 b c];decide)).trans (a.bd.2.2 b c)⟩
theorem aX.evK(c:aX p s d w)(h:bi S w w')(f:∀b,d.ow b=-3->¬S b)(i:∀b,d.ow b≠0->ow b=d.ow b):(w'.ownsRow p.lo 40 7 d.ev d.es.length (d.es.flatMap GK)/\∀b,d.ev.ownBlock=some b->ow b=-3)/\∀e∈d.es,(In w'.heap.size w' 13 e.2.2.2/\bV (λb=>ow b=-3/\d.ev.ownBlock≠some b) 13 e.2.2.2)/\zN e.2.2.2:=by
 refine⟨⟨aW c.evr.1 h λb a=>f b (c.evr.2 b a),λb a=>(i b (by rw[c.evr.2 b a];decide)).trans (c.evr.2 b a)⟩,λe g=>⟨?_,(c.evt.2 e g).2⟩⟩;have j:=eJ h (λb a=>f b a.1) (c.evt.2 e g).1;exact⟨j.1,j.2.mono λb a=>⟨(i b (by rw[a.1];decide)).trans a.1,a.2⟩⟩
theorem pK{d:gf}{w:World}(a:w.heap[p.b]?=some (.cells (dK p s d) 70)):sB (yS p s d) d.wo w/\sB (LK p s d) d.bo w:=by
 refine⟨⟨⟨by simp[yS,dK],by simp[yS]⟩,?_⟩,⟨⟨by simp[LK,dK],by simp[LK]⟩,?_⟩⟩
 ·simp[yS,dK,a]
 ·simp[LK,dK,a]
theorem aX.kept(a:aX p s d w)(c:bi S w w')(n:∀b,S b->d.ow b=0):aX p s d w':=by
 have j:∀b,d.ow b≠0->¬S b:=λb e r=>e (n b r);have f:∀b,d.ow b≠0->d.ow b=d.ow b:=λ_ _=>rfl;have h:w'.heap[p.b]?=some (.cells (dK p s d) 70):=(c.block p.b (aA.1 a.box).1 (j p.b (by rw[a.own];decide))).trans a.box;have i:∀b,d.ow b≠0->p.lo<=b/\b<w'.heap.size:=λb e=>⟨(a.low b e).1,aJ (a.low b e).2 c.size⟩;have t:∀{t:Int},t≠0->∀b,d.ow b=t->¬S b:=λo b g=>j b (by rw[g];exact o);obtain⟨y1,y2,q⟩:=a.wyK c (t (by decide)) f rfl (pK h).1;obtain⟨l,m⟩:=a.evK c (t (by decide)) f;exact⟨i,h,a.own,⟨a.pgK c (t (by decide)) f,a.pg.2⟩,a.pmK c (λb g _=>t (by decide) b g) f,a.keys,λk b e=>a.psK c (ai _) (t (by have:=(a.key e).1;omega)) f i e,⟨y1,y2,a.wy.2.2.1,a.wy.2.2.2.1,q⟩,a.bdK c (t (by decide)) f rfl (pK h).2,l,a.evt.1,m⟩
theorem aX.later(a:aX p s d w)(b:ag w w'):aX p s d w':=a.kept (aE b λ_=>False) λ_ q=>q.elim
end
def M4(f g:Int)(h:ByteArray)(xa:Option Addr)(i xc:Nat)(t:Tc)(w:World):Prop:=
 ∀b,ag w b->ah 54 #[.agg #[.int .i64 f,.int .i64 g,.string h,.slice xa i xc]] b λd c=>∃y0 y1 y2 ya yl yc,d=.returned (.agg #[.int .i64 y0,.int .i64 y1,.string y2,.slice ya yl yc])/\Hid (ag b c/\∃a:Tc,(a.1=(y0,y1,y2)/\a.2.1=(ya,yc)/\a.2.2.length=yl)/\(In c.heap.size c 13 a/\bV (λe=>b.heap.size<=e) 13 a)/\cn 13 a=t/\zN a)
theorem jL{m:Nat}{x:Tm (m+1)}{w:World}(n:In w.heap.size w (m+1) x)(g:bm (m+1) x=0):M4 x.1.1 x.1.2.1 x.1.2.2 x.2.1.1 x.2.2.length x.2.1.2 (cn (m+1) x) w:=λW f=>by
 have l:av ⟨m+1,x⟩:=aG.2 (br.1 g).1;refine(gM (m+1) x W.heap.size W ((n.below f).mono f.size) (ai _) l).mono ?_;rintro e w' ⟨y,rfl,H⟩;obtain⟨i,j,k,d⟩:=H.out;have a:bm (m+1) y=0:=(bH d).trans g;have c:av ⟨m+1,y⟩:=aG.2 (br.1 a).1;have b:eW (m+1) y<13:=by have:=(br.1 a).2.1;omega
 have h:=iS 13 (m+1) y c b;refine⟨y.1.1,y.1.2.1,y.1.2.2,y.2.1.1,y.2.2.length,y.2.1.2,rfl,i,aK 13 (m+1) y,⟨rfl,rfl,by simp[aK]⟩,⟨rB 13 (m+1) y _ _ c b j,sZ 13 (m+1) y _ c b k⟩,(gL h).trans (gL d),ae ((bH h).trans a)⟩
theorem Hg(w:World):M4 0 0 ⟨#[]⟩ none 0 0 ve w:=λW h=>by
 refine(rk 12 0 0 ⟨#[]⟩ none 0 0 [] W (by decide) λw1 c=>?_).mono ?_
 ·refine(kL none 0 w1).mono ?_;rintro e w' ⟨rfl,rfl⟩;exact⟨none,0,[],rfl,ak _ _,rfl,ai _,aB _,rfl,ae rfl⟩
 ·rintro e w' ⟨a,b,l,rfl,H⟩;obtain⟨c,d,g,f,_⟩:=H.out;obtain rfl:l=[]:=bD d;exact⟨0,0,⟨#[]⟩,a,0,b,rfl,c,((0,0,⟨#[]⟩),(a,b),[]),⟨rfl,rfl,rfl⟩,⟨⟨⟨show dh 0 by unfold dh;decide,show dh 0 by unfold dh;decide,show (0:Nat)<=maxLen from aB _,aB _,f⟩,ae rfl⟩,ae rfl⟩,rfl,af ⟨rfl,rfl⟩⟩
def Ed(d:gf)(w w':World)(t:Int)(q:Nat):Int:=if w.heap.size<=q/\q<w'.heap.size then t else d.ow q
theorem tb{p:lh}{s:Sy}{d:gf}{w w':World}{t:Int}(a:aX p s d w)(e:w.heap.size<=w'.heap.size)(c:p.lo<=w.heap.size):∀b,Ed d w w' t b≠0->p.lo<=b/\b<w'.heap.size:=λb q=>by
 unfold Ed at q;split at q
 ·omega
 ·have:=a.low b q;omega
theorem td{p:lh}{s:Sy}{d:gf}{w w':World}{t:Int}(a:aX p s d w):∀b,d.ow b≠0->Ed d w w' t b=d.ow b:=λb q=>by
 have:=(a.low b q).2;exact if_neg (by omega)
theorem aX.lo{p:lh}{s:Sy}{d:gf}{w:World}(a:aX p s d w):p.lo<=w.heap.size/\p.b<w.heap.size:=by
 have:=a.low p.b (by rw[a.own];decide);omega
def xi(p:lh)(s:Sy)(d:gf)(wt:ByteArray)(a b:Int)(t:Tc)(w w':World):Prop:=
 ∃e f,aX p (s.tell wt a b t) {d with ow:=Ed d w w' (-3),ev:=e,es:=d.es++ [(wt,a,b,f)]} w'/\bi (λc=>c=p.b\/d.ow c=-3) w w'
theorem aX.tell{p:lh}{s:Sy}{d:gf}{w:World}(g:aX p s d w)(wt:ByteArray)(a b V W:Int)(X:ByteArray)(xa:Option Addr)(Y xc:Nat)(t:Tc)(aA:M4 V W X xa Y xc t w)(az:d.es.length<=100000):ah 44 #[.pointer (some ⟨p.b,0,none⟩),.string wt,.int .i64 a,.int .i64 b,.agg #[.int .i64 V,.int .i64 W,.string X,.slice xa Y xc]] w λe w'=>e=.returned (.tuple #[])/\Hid (xi p s d wt a b t w w'):=by
 obtain⟨aa,am⟩:=g.lo;obtain⟨y,z,m⟩:∃y z,d.ev=.slice y d.es.length z:=by
  rcases g.evr.1.2 with⟨e,ax⟩|⟨i,c,aN,e,_⟩
  ·exact⟨none,0,by rw[e,ax]⟩
  ·exact⟨_,c,e⟩
 have O:=g.box;have I:d.ev.ownBlock≠some p.b:=λe=>by
  have u:=g.evr.2 _ e;rw[g.own]at u;cases u
 have al:=g.evr.1;rw[m]at al I;refine(Dc p.lo p.b wt a b V W X xa Y xc y d.es.length z _ (λK w' y0 y1 y2 ya yl yc=>∃l:Tc,(l.1=(y0,y1,y2)/\l.2.1=(ya,yc)/\l.2.2.length=yl)/\(In w'.heap.size w' 13 l/\bV (λf=>K.heap.size<=f) 13 l)/\cn 13 l=t/\zN l) w az am aa ⟨?_,by simp[World.frozen?,O]⟩ al I aA).mono ?_
 ·have u:=ab O 6;simp only[dK,cG,cT]at u;rw[m]at u;exact u
 rintro e w' ⟨rfl,ap⟩;obtain⟨i,c,q,x,K,L,y0,y1,y2,ya,yl,yc,R,aJ,⟨l,⟨M,N,ay⟩,Q,aB,aF⟩,S,an,J⟩:=ap.out;have H:ag w L:=R.trans (aJ.mono R.size);have P:bi (λaM=>(Value.slice y d.es.length z).ownBlock=some aM) w q:=(aE H _).trans S λ_ _ e=>e;have o:bi (λf=>f=p.b\/d.ow f=-3) w w':=by
  rw[x];refine(P.mono (T:=λf=>f=p.b\/d.ow f=-3) λf _ e=>af (g.evr.2 f (by rw[m];exact e))).trans (bt q p.b 6 _) λf _ e=>ae e
 have aI:=o.size;have aQ:w'.heap.size=q.heap.size:=by rw[x];simp[World.setCell]
 have Z:w'.heap[p.b]?=some (.cells (dK p (s.tell wt a b t) {d with ow:=Ed d w w' (-3),ev:=.slice (some ⟨i,0,none⟩) (d.es.length+1) c,es:=d.es++ [(wt,a,b,l)]}) 70):=by
  have v:q.heap[p.b]?=some (.cells (dK p s d) 70):=(P.block p.b am I).trans O;rw[x];simp[World.setCell,bC,v,dK,Sy.tell]
 have ad:=tb (t:=-3) g aI aa;have n:=td (w':=w') (t:=-3) g;have G:∀{U:Int},U≠ -3->U≠ -5->∀f,d.ow f=U->¬(f=p.b\/d.ow f=-3):=λF v f e h=>by
  rcases h with rfl|h
  ·rw[g.own]at e;exact v e.symm
  ·exact F (e.symm.trans h)
 have ak:∀f,w.heap.size<=f->f<w'.heap.size->Ed d w w' (-3) f=-3:=λf ar au=>if_pos ⟨ar,au⟩;obtain⟨av,aw⟩:=pK Z;obtain⟨E,j,r⟩:=g.wyK o (G (by decide) (by decide)) n rfl av;refine⟨rfl,.slice (some ⟨i,0,none⟩) (d.es.length+1) c,l,⟨ad,Z,(n p.b (by rw[g.own];decide)).trans g.own,⟨g.pgK o (G (by decide) (by decide)) n,g.pg.2⟩,g.pmK o (λf M N h=>?_) n,g.keys,λk b f=>g.psK o (ai _) (G (by have:=(g.key f).1;omega) (by have:=(g.key f).1;omega)) n ad f,⟨E,j,g.wy.2.2.1,g.wy.2.2.2.1,r⟩,g.bdK o (G (by decide) (by decide)) n rfl aw,⟨?_,λf e=>?_⟩,?_,λe A=>?_⟩,o⟩
 ·rcases h with h|h
  ·exact N h
  ·rw[M]at h;cases h
 ·have e:[(wt,a,b,l)].flatMap GK=[.string wt,.int .i64 a,.int .i64 b,.int .i64 y0,.int .i64 y1,.string y2,.slice ya yl yc]:=by simp[GK,M,N,ay]
  have v:w'.ownsRow p.lo 40 7 (.slice (some ⟨i,0,none⟩) (d.es.length+1) c) (d.es.length+1) (d.es.flatMap GK++ [(wt,a,b,l)].flatMap GK):=by
   rw[e,x];refine aW an (bt q p.b 6 _) λf aG h=>?_;have:i=f:=aq aG;subst this h;rcases J with h|h
   ·exact I h
   ·have:=H.size;omega
  rw[<-jW]at v;simpa using v
 ·have B:i=f:=aq e;subst B;rcases J with h|h
  ·have F:=g.evr.2 i (by rw[m];exact h);exact(n i (by rw[F];decide)).trans F
  ·have:=H.size;have:=(an.lt i rfl).2;exact ak i (by omega) (by omega)
 ·show _=s.evs++ [(wt,a,b,t)];rw[gV,g.evt.1,aH,bS,aB]
 ·have aD:bi (λf=>f=p.b\/d.ev.ownBlock=some f) w w':=by
    rw[x,m];exact(P.mono (T:=λf=>f=p.b\/(Value.slice y d.es.length z).ownBlock=some f) λf _ e=>af e).trans (bt q p.b 6 _) λf _ e=>ae e
  have aC:bi (λf=>f=p.b\/d.ev.ownBlock=some f) L w':=by
   rw[x,m];exact(S.mono (T:=λf=>f=p.b\/(Value.slice y d.es.length z).ownBlock=some f) λf _ e=>af e).trans (bt q p.b 6 _) λf _ e=>ae e
  have aP:=H.size;rcases cU.1 A with A|A
  ·obtain⟨⟨ao,aK⟩,aL⟩:=g.evt.2 e A;refine⟨?_,aL⟩;have C:=eJ aD (D:=λf=>(d.ow f=-3/\d.ev.ownBlock≠some f)/\f<w.heap.size) (λf E j=>?_) ⟨ao,In.offB aK ao⟩
   ·refine⟨C.1,C.2.mono λf h=>⟨(n f (by rw[h.1.1];decide)).trans h.1.1,λj=>?_⟩⟩;have B:i=f:=aq j;subst B;rcases J with r|r
    ·exact h.1.2 (by rw[m];exact r)
    ·omega
   ·rcases j with rfl|j
    ·have:=E.1.1;rw[g.own]at this;cases this
    ·exact E.1.2 j
  ·obtain rfl:=dA.1 A;refine⟨?_,aF⟩;have aO:=R.size;have aj:∀f,d.ev.ownBlock=some f->f<w.heap.size:=λf h=>(g.evr.1.lt f h).2;have C:=eJ aC (D:=λf=>K.heap.size<=f/\f<L.heap.size) (λf E j=>?_) ⟨Q.1,In.offB Q.2 Q.1⟩
   ·have:=S.size;refine⟨C.1,C.2.mono λf h=>⟨ak f (by omega) (by omega),λj=>?_⟩⟩;have B:i=f:=aq j;subst B;rcases J with r|r
    ·have:=aj i (by rw[m];exact r);omega
    ·omega
   ·rcases j with rfl|j
    ·omega
    ·have:=aj f j;omega
theorem N5{w:World}{q:Nat}{a b c d:Value}{T:TypeId}{fr:Nat×Nat}(e:w.heap[q]?=some (.cells #[a,b,c,d] T fr)):w.cell? ⟨q,0,none⟩=some a/\w.cell? ⟨q,1,none⟩=some b/\w.cell? ⟨q,2,none⟩=some c/\w.cell? ⟨q,3,none⟩=some d:=by simp[World.cell?,e]
theorem Fb{l:List (Int×Nat)}{ps:List (Int×ByteArray×Tc×List Tc)}(k:Int)(a:l.map (·.1)=ps.map (·.1)):(cJ l k).isSome=((ps.find? λp=>p.1==k).map (·.2)).isSome:=by
 induction l generalizing ps with
 | nil=>
  cases ps with
  | nil=>rfl
  | cons b ps=>simp at a
 | cons c l ih=>
  cases ps with
  | nil=>simp at a
  | cons b ps=>
   simp only[aH,List.cons.injEq]at a;have ih:=ih a.2;unfold cJ at ih ⊢;rw[jb,jb,a.1];cases b.1==k
   ·exact ih
   ·rfl
section
variable {p:lh} {s:Sy} {d:gf} {w:World}
theorem aX.alive(a:aX p s d w)(k:Int):(cJ d.l k).isSome=(s.get k).isSome:=Fb k a.keys.1
theorem aX.look(g:aX p s d w)(k:Int)(c:Bool):(Instr.lookup 62 (.map d.po) (.int .i64 k) c).run Tryz.prog w=.ok (if c then .tuple #[match cJ d.l k with|some b=>yR b|none=> .pointer none,.bool (cJ d.l k).isSome]else match cJ d.l k with|some b=>yR b|none=> .pointer none) w:=by
 rcases g.pm with⟨a,f⟩|⟨j,a,_,_,f⟩
 ·rw[a,f];have:=Cj w k c;cases c<;>exact this
 ·rw[a];obtain⟨h,i⟩:=f.look k c;cases e:cJ d.l k with
  | none=>
   rw[h e];cases c<;>rfl
  | some b=>
   rw[i b e];cases c<;>rfl
theorem aX.cells(c:aX p s d w):w.cell? ⟨p.b,0,none⟩=some (.slice p.pa p.prog.length p.pc)/\w.cell? ⟨p.b,1,none⟩=some (.int .i64 p.room)/\w.cell? ⟨p.b,2,none⟩=some (.int .i64 s.last)/\w.cell? ⟨p.b,3,none⟩=some (.map d.po):=by
 have a:=c.box;exact⟨ab a 0,ab a 1,ab a 2,ab a 3⟩
theorem aX.isAlive(a:aX p s d w)(k:Int):ah 49 #[.pointer (some ⟨p.b,0,none⟩),.int .i64 k] w λe w'=>e=.returned (.bool (s.get k).isSome)/\w'=w:=by
 have i:=a.cells.2.2.2;have f:=a.look k true;rw[if_pos rfl]at f;have c:=a.alive k;obtain⟨h,g⟩:∃h,h=(s.get k).isSome:=⟨_,rfl⟩;rw[<-g]at c ⊢;rw[c]at f;generalize (match cJ d.l k with|some b=>yR b|none=> .pointer none)=m at f;clear c g;generalize d.po=j at*;clear a;go_enter Tryz.func49,Tryz.ntmps49;go_wp2_with fail
 go_ret
 exact⟨rfl,rfl⟩
theorem aX.len(c:aX p s d w)(ty:TypeId):(Builtin.len_ #[62] ty #[.map d.po]).run Tryz.prog w=.ok (.int .i64 s.ps.length) w:=by
 have e:d.l.length=s.ps.length:=by
  have:=congrArg List.length c.keys.1;simpa using this
 rcases c.pm with⟨a,b⟩|⟨f,a,_,_,b⟩
 ·rw[a,<-e,b];exact Maps.len_nil Tryz.underlying62 ty
 ·rw[a,<-e];exact vb.len b Tryz.underlying62 ty
theorem aX.mayHave(c:aX p s d w)(n:Nat)(r:n<=1000):ah 37 #[.pointer (some ⟨p.b,0,none⟩),.int .i64 n] w λe w'=>e=.returned (.bool (s.may n))/\w'=w:=by
 obtain⟨_,_,k,l⟩:=c.cells;have q:=c.len 3;obtain⟨_,_,_,t,u,v⟩:=c.keys;obtain⟨j,a⟩:∃j,j=s.may n:=⟨_,rfl⟩;rw[<-a];unfold Sy.may at a;generalize s.last=h at*;generalize s.ps.length=f at*;generalize d.po=x at*;clear c;have m:IntKind.i64.wrap ((f:Int)+n)=(f:Int)+n:=by rw[IntKind.wrap];simp[IntKind.bits,IntKind.signed];omega
 have o:IntKind.i64.wrap (h+n)=h+n:=by rw[IntKind.wrap];simp[IntKind.bits,IntKind.signed];omega
 go_enter Tryz.func37,Tryz.ntmps37;by_cases g:(f:Int)+n<=12
 ·by_cases i:h+n<=90
  ·rw[gD g,gD i]at a;subst a;go_wp2_with fail
   go_ret
   exact⟨rfl,rfl⟩
  ·rw[gD g,decide_eq_false i]at a;subst a;go_wp2_with fail
   go_ret
   exact⟨rfl,rfl⟩
 ·rw[decide_eq_false g]at a;subst a;go_wp2_with fail
  go_ret
  exact⟨rfl,rfl⟩
theorem Cs(n:Nat)(nm:ByteArray)(l:List (Bh n))(q:Option Addr)(F len B r:Nat)(w:World)(J:l.length=len)(K:len<=9223372036854775807)(C:B<=w.heap.size)(_hsb:r<w.heap.size)(v:Hid (w.cell? ⟨r,0,none⟩=some (.slice q len F)))(y:Hid (gF n B w q l)):ah 38 #[.pointer (some ⟨r,0,none⟩),.string nm] w λe w'=>e=.returned (.bool (fN n nm l).isSome)/\ag w w':=by
 have H:=v.out;go_enter Tryz.func38,Tryz.ntmps38;go_wp2_with fail;go_loopw [12] (λm wr=>∃a:Nat,a<=len/\m=.int .i64 a/\Hid (ag w wr/\fN n nm l=fN n nm (l.drop a))) (λm _=>len-(intOf m).toNat)
 case atStart=>exact⟨0,by omega,rfl,ak _ _,rfl⟩
 case round=>
 obtain⟨a,I,rfl,c⟩:=hrel;by_cases L:a<len
 ·obtain⟨b,d⟩:∃b,l[a]?=some b:=⟨l[a]'(by omega),aD _⟩;obtain⟨j,lo,rfl,E,x⟩:∃g o,q=some ⟨g,o,none⟩/\g<B/\Hid (∀(t:Nat)(f:Value),(oM n b)[t]?=some f->w.cell? ⟨g,o+a*2+t,none⟩=some f):=by
   rcases y.out with e|⟨g,o,e,D,A⟩
   ·rw[e]at d;simp at d
   ·exact⟨g,o,e,D,(A a _ d).1⟩
  have h:∀(t:Nat)(f:Value),(oM n b)[t]?=some f->wr.cell? ⟨j,lo+a*2+t,none⟩=some f:=λt f u=>(c.out.1.cell (p:=⟨j,lo+a*2+t,none⟩) (aJ E C)).trans (x.out t f u);have G:wr.cell? ⟨j,lo+a*2,none⟩=some (.string b.1):=h 0 _ rfl;have O:wr.cell? ⟨j,lo+a*2+1,none⟩=some (.slice b.2.1.1 b.2.2.length b.2.1.2):=h 1 _ rfl;have M:(0:Int)<=(a:Int):=by omega
  have N:(a:Int)<(len:Int):=by omega
  have s:Hid (∀o,ag w (wr.alloc o)):=λo=>c.out.1.alloc c.out.1.size o;by_cases i:b.1=nm
  ·have k:Hid (fN n nm l=some b):=by
     show _=_;rw[c.out.2,nN n nm d,if_pos i]
   rw[i]at G;clear h c d;go_wp2_with fail
   go_ret
   exact⟨bG (by rw[k.out];rfl),s.out _⟩
  ·have k:Hid (fN n nm l=fN n nm (l.drop (a+1))):=by
     show _=_;rw[c.out.2,nN n nm d,if_neg i]
   have u:(b.1.toList==nm.toList)=false:=by
    rw[f9];intro e;rw[bW,bW]at e;exact i (ByteArray.ext (Array.ext' e))
   clear h c d;go_wp2_with fail;go_roundw
   case rel=>exact⟨a+1,by omega,by go_num,s.out _,k.out⟩
   case measure=>simp[intOf];omega
 ·obtain rfl:a=len:=by omega
  have z:Hid (fN n nm l=none):=by
   show _=_;rw[c.out.2,ov (by omega)];rfl
  have HB:=aj c.out.1;clear c;go_wp2_with fail
  go_ret
  exact⟨bG (by rw[z.out];rfl),HB.out⟩
theorem aX.knows(a:aX p s d w)(nm:ByteArray):ah 38 #[.pointer (some ⟨p.b,0,none⟩),.string nm] w λe w'=>e=.returned (.bool (ky p.n p.prog nm))/\ag w w':=
 Cs (p.n+1) nm p.prog p.pa p.pc p.prog.length w.heap.size p.b w rfl (aw a.pg.2.1 a.pg.2.2.1) (ai _) a.lo.2 a.cells.1 a.pg.1.1
end
end Go.Proofs.YtckamaoibonjcaaGreat
