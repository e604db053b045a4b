/- What is proved here: plain facts and contracts that the claimed theorem stands on. No condition but those that each names. -/
import Derived.Test.YtckamaoibonjcaaGreatG30
import Derived.Deep.DeepAppendWide
import Derived.MapKept
namespace Go.Proofs.YtckamaoibonjcaaGreat
open Go.RowKit
open Go.MapKept
set_option maxRecDepth 100000
set_option maxHeartbeats 4000000
def NF(s:Sy):Prop:=∀a nm cs b,s.get a=some (nm,cs,b)->(bu 13 cs=0/\aJ 13 cs=true)/\∀t∈b,bu 13 t=0/\aJ 13 t=true
def dq(s:Sy):Prop:=(∀q∈s.ps,q.2.2.2.length<=3)/\∀e∈s.evs,¬(e.1=iq/\e.2.2.1=3)
theorem dq.zero:dq ⟨0,[],λ_=> [],λ_=>false,[]⟩:=⟨λ_ a=>(by cases a),λ_ a=>(by cases a)⟩
theorem dq.tell{s:Sy}(d:dq s){wt:ByteArray}{a b:Int}{t:Tc}(g:¬(wt=iq/\b=3)):dq (s.tell wt a b t):=by
 refine⟨d.1,λe f=>?_⟩;rcases cR.1 f with c|c
 ·exact d.2 e c
 ·rw[de.1 c];exact g
theorem rG:iT≠iq/\fi≠iq/\mJ≠iq/\fZ≠iq:=by decide
theorem dq.add{s:Sy}(c:dq s)(a:Int)(nm:ByteArray)(cs:Tc):dq (s.add a nm cs):=by
 have d:dq {s with last:=s.last+1,ps:=s.ps++ [(s.last+1,nm,cs,[])]}:=⟨λf e=>by
  rcases cR.1 e with b|b
  ·exact c.1 f b
  ·rw[de.1 b]
   exact aE _,c.2⟩
 exact d.tell λb=>rG.1 b.1
theorem dq.drop{s:Sy}(a:dq s)(x:Int){how:Int}(c:how≠3):dq (s.drop x how):=by
 have b:dq {s with ps:=s.ps.eraseP λe=>e.1==x}:=⟨λf d=>a.1 f (List.mem_of_mem_eraseP d),a.2⟩;exact b.tell λg=>c g.2
theorem dq.fold{b:Type}(f:Sy->b->Sy)(a:∀s x,dq s->dq (f s x)):(l:List b)->{s:Sy}->dq s->dq (l.foldl f s)
 | [],_,h=>h
 | x::l,_,h=>dq.fold f a l (a _ x h)
theorem dq.fin{s:Sy}(b:dq s)(x:Int){how:Int}(c:how≠3):dq (s.fin x how):=
 dq.fold (λ(s:Sy)(a:Int)=>s.drop a 4) (λ_ a k=>k.drop a (by decide)) _ (s:={s.drop x how with bonds:=wo s.bonds (x::mI s.bonds x (how==1))}) ⟨(b.drop x c).1,(b.drop x c).2⟩
theorem dq.put{s:Sy}(a:dq s)(k:Int){v:ByteArray×Tc×List Tc}(d:v.2.2.length<=3):dq (s.put k v):=by
 refine⟨λf b=>?_,a.2⟩;obtain⟨e,c,rfl⟩:=ci.1 b;split
 ·exact d
 ·exact a.1 e c
theorem MP{s:Sy}{k:Int}{v:ByteArray×Tc×List Tc}(a:s.get k=some v):∃q∈s.ps,q.2=v:=by
 unfold Sy.get at a;obtain⟨q,b,rfl⟩:=cd.1 a;exact⟨q,sf b,rfl⟩
theorem yQ{x:Tc}(a:bu 13 x=0):sz 13 x<=200:=(bw.1 a).2.2
theorem Ds:(l:List Tc)->(∀t∈l,bu 13 t=0)->(l.map (sz 13)).sum<=200*(l.length:Int)
 | [],_=>by simp
 | x::l,h=>by
  have b:=yQ (h x (by simp));have c:=Ds l λt a=>h t (bI _ a);simp only[aK,bv,aZ];omega
theorem dq.deliver{s:Sy}(d:dq s)(m:NF s)(a b:Int)(t:Tc)(l:∀v,s.get b=some v->v.2.2.length<3):dq (s.deliver 1000 a b t):=by
 unfold Sy.deliver;split
 ·exact d
 ·rename_i n j e g;have h:=l _ g;obtain⟨⟨o,_⟩,p⟩:=m _ _ _ _ g;split
  ·exact d.tell λq=>rG.2.2.2 q.1
  ·split
   ·rename_i c;exfalso;have u:=Ds e λt i=>(p t i).1;have r:=yQ o;simp only at h;unfold lM at c;rw[if_neg (by omega)]at c;split at c
    ·rcases vU 13 t with f|f|f<;>omega
    ·rename_i k;have i:=yQ (Decidable.not_not.1 k);split at c
     ·cases c
     ·rw[if_pos (by simp only[aK,bv];omega)]at c;cases c
   ·split
    ·refine d.put _ (v:=(n,j,e++ [t])) ?_;simp only at h;simp only[bj,aZ,iP];omega
    ·exact d
theorem dq.send{s:Sy}(d:dq s)(a b:Int)(t:Tc):dq (s.send a b t):=by
 unfold Sy.send;split
 ·exact dq.tell (s:={s with ways:=gK s.ways (a,b) (s.ways (a,b)++ [t])}) d λc=>rG.2.2.1 c.1
 ·exact d.tell λc=>rG.2.2.2 c.1
theorem dq.link{s:Sy}(c:dq s)(a b:Int):dq (s.link a b):=by
 unfold Sy.link;split<;>exact c
theorem dq.follow{s:Sy}(e:dq s)(a:Int)(c:Tk):dq (s.follow a c):=by
 have d:=dq.fold (λ(s:Sy)(b:Int)=>s.link a b) (λ_ b k=>k.link a b) c.links (dq.fold (λ(s:Sy)(b:Int×Tc)=>s.send a b.1 b.2) (λ_ b k=>k.send a b.1 b.2) c.sends (dq.fold (λ(s:Sy)(b:Int×ByteArray×Tc)=>s.add a b.2.1 b.2.2) (λ_ b k=>k.add a b.2.1 b.2.2) c.spawns e));unfold Sy.follow;simp only;split
 ·exact d.fin a (by decide)
 ·exact d
theorem JC{n:Nat}{l:List (Bh (n+1))}{nm:ByteArray}{self next:Int}{cs:Tc}{b:List Tc}{d:Tk}(a:l6 1000 l nm self next cs b=some d)(k:b.length<=3)(g:∀t∈b,bu 13 t=0):d.fate≠3/\d.mail.length<=3:=by
 obtain⟨e,_,a⟩:=br.1 a;obtain⟨o,_,rfl⟩:=cd.1 a;have j:=List.length_eraseIdx_le b e.1;have m:=Ds (b.eraseIdx e.1) λt c=>g t (List.mem_of_mem_eraseIdx c);unfold eO;split
 ·exact⟨by simp only;decide,by simp only;omega⟩
 ·split
  ·exact⟨by simp only;decide,by simp only;omega⟩
  ·rename_i h _ t c;have f:bu 13 t=0:=by
    unfold rn at c;obtain⟨p,_,a⟩:=br.1 c;split at a
    ·rw[<-au a];exact pC ‹_›
    ·cases a
   have i:=yQ f;rw[if_pos (by omega)];refine⟨?_,by simp only;omega⟩;simp only;split<;>decide
theorem dq.do{n:Nat}{prog:List (Bh (n+1))}{s:Sy}(c:dq s)(f:NF s)(h a b:Int)(k:Nat)(x:Tm k)(r:h=2->∀v,s.get b=some v->v.2.2.length<3)(u:h=3->∀v,s.get a=some v->v.2.2.length<3):dq (s.do n prog 1000 h a b k x).1:=by
 unfold Sy.do;split
 ·unfold Sy.run;split
  ·exact c
  ·rename_i m B A i;obtain⟨z,w,o⟩:=MP i;have j:=c.1 z w;rw[o]at j;split
   ·split
    ·exact c
    ·rename_i d y;obtain⟨p,q⟩:=JC y j λt e=>((f _ _ _ _ i).2 t e).1;have g:dq ((s.put a (m,d.state,d.mail)).tell fi a 0 d.message):=(c.put a (v:=(m,d.state,d.mail)) q).tell λe=>rG.2.1 e.1;simp only;split
     ·exact g.fin a p
     ·split
      ·exact g.fin a (by decide)
      ·exact g.follow a d
   ·exact c
 ·split
  ·unfold Sy.arrive;split
   ·exact c
   ·rename_i t l _;simp only;split
    ·exact dq.deliver (s:={s with ways:=gK s.ways (a,b) l}) c f a b t (r ‹_›)
    ·exact dq.tell (s:={s with ways:=gK s.ways (a,b) l}) c λe=>rG.2.2.2 e.1
  ·split
   ·unfold Sy.inject;split
    ·exact c
    ·split
     ·exact c
     ·split
      ·exact c
      ·exact c.deliver f 0 a _ (u ‹_›)
   ·exact c
theorem dq.start{n:Nat}{prog:List (Bh (n+1))}{room:Int}{s:Sy}(a:dq s)(nm:ByteArray)(k:Nat)(x:Tm k):dq (s.start n prog room nm k x).1:=by
 unfold Sy.start;split
 ·exact a
 ·split
  ·exact a
  ·split
   ·exact a
   ·exact a.add 0 nm _
variable {P:Program} {md:Region.Mode} {ops:Array Oper} {Q:Exit->Act->World->Prop} {S:World->Prop} {X:Nat}
theorem Kc(i:Nat){d:Oper}{v:Value}{f:Nat}{e:Array Bool}{a:Act}{w:World}(l:ops[i]?=some d)(b:(Region.noSelect ops && Region.free md ops e i && (Region.ready md ops e).contains i && ze md ops X i)=true)(h:∀c a w,Q (.panic c) (a.put d.dst v) w->Q (.panic c) a w)(k:d.guard=none)(m:∀w,S w->(execOp a.eval d).run P w=.ok (.value v) w)(j:S w)(g:jB P md ops Q S X f (e.setIfInBounds i true) (a.put d.dst v) w):jB P md ops Q S X (f+1) e a w:=by
 simp only[aA]at b;exact aS l b.1.1.1 b.1.1.2 b.1.2 b.2 h k m j g
theorem IA:(Tryz.prog.info? 40).map (λi=>(i.zero,i.size,i.bytes))=some (some (.agg #[.string ⟨#[]⟩,.int .i64 0,.int .i64 0,.int .i64 0,.int .i64 0,.string ⟨#[]⟩,.slice none 0 0]),7,88):=by kernel_rfl
def L0(base:Nat)(wt:ByteArray)(a b:Int)(f:Option Addr)(L h:Nat)(xs:List Value)(R:World->World->Int->Int->ByteArray->Option Addr->Nat->Nat->Prop)(w i:World)(g c:Nat):Prop:=
 ∃d e y0 y1 y2 ya yl yc,Below w.heap.size w d/\Below d.heap.size d e/\R d e y0 y1 y2 ya yl yc/\bq (λj=>(Value.slice f L h).ownBlock=some j) e i/\i.ownsRow base 40 7 (.slice (some ⟨g,0,none⟩) (L+1) c) (L+1) (xs++ [.string wt,.int .i64 a,.int .i64 b,.int .i64 y0,.int .i64 y1,.string y2,.slice ya yl yc])/\((Value.slice f L h).ownBlock=some g\/e.heap.size<=g)
theorem Dr(base m:Nat)(wt:ByteArray)(a b A B:Int)(C:ByteArray)(xa:Option Addr)(D xc:Nat)(n:Option Addr)(L q:Nat)(xs:List Value)(R:World->World->Int->Int->ByteArray->Option Addr->Nat->Nat->Prop)(w:World)(aU:L<=100000)(X:m<w.heap.size)(aV:base<=w.heap.size)(Z:Hid (w.cell? ⟨m,6,none⟩=some (.slice n L q)/\w.frozen? ⟨m,6,none⟩=false))(ah:Hid (w.ownsRow base 40 7 (.slice n L q) L xs))(ab:Hid ((Value.slice n L q).ownBlock≠some m))(aa:Hid (∀W,Below w.heap.size w W->Calls Tryz.prog 54 #[.agg #[.int .i64 A,.int .i64 B,.string C,.slice xa D xc]] W λe w'=>∃y0 y1 y2 ya yl yc,e=.returned (.agg #[.int .i64 y0,.int .i64 y1,.string y2,.slice ya yl yc])/\Hid (Below W.heap.size W w'/\R W w' y0 y1 y2 ya yl yc))):Calls Tryz.prog 44 #[.pointer (some ⟨m,0,none⟩),.string wt,.int .i64 a,.int .i64 b,.agg #[.int .i64 A,.int .i64 B,.string C,.slice xa D xc]] w λe w'=>e=.returned (.tuple #[])/\Hid (∃g c r,w'=r.setCell ⟨m,6,none⟩ (.slice (some ⟨g,0,none⟩) (L+1) c)/\L0 base wt a b n L q xs R w r g c):=by
 obtain⟨aJ,aq,aw,ax,ay⟩:=bS IA;have M:=ao (⟨aq,aw,ax,ay⟩:_/\_/\_/\_);clear aq aw ax ay;go_enter Tryz.func44,Tryz.ntmps44;go_upto_region 1 with fail;generalize az:w.alloc _=s;have y:Hid (Below w.heap.size w s/\s.heap[w.heap.size]?=some (.cells #[.int .i64 A,.int .i64 B,.string C,.slice xa D xc] 30)):=by
  rw[<-az];exact⟨(ap _ _).alloc (ak _) _,aB _ _⟩
 clear az;obtain⟨h,T⟩:∃h,h=w.heap.size:=⟨_,rfl⟩;rw[<-T];rw[<-T]at y;have O:=ao T;clear T;have N:Hid (∀W:World,Below s.heap.size s W->W.cell? ⟨m,6,none⟩=some (.slice n L q)/\W.cell? ⟨h,0,none⟩=some (.int .i64 A)/\W.cell? ⟨h,1,none⟩=some (.int .i64 B)/\W.cell? ⟨h,2,none⟩=some (.string C)/\W.cell? ⟨h,3,none⟩=some (.slice xa D xc)):=λW d=>by
  have Q:=(d.block h (aD.1 y.out.2).1).trans y.out.2;have aE:=(O.out▸y.out.1:Below w.heap.size w s).trans (d.mono (O.out▸y.out.1:Below w.heap.size w s).size);exact⟨(aE.cell (p:=⟨m,6,none⟩) X).trans Z.out.1,ag Q 0,ag Q 1,ag Q 2,ag Q 3⟩
 have G:Hid (Below s.heap.size s s.drew):=(ap _ _).drew;have z:Hid (Below w.heap.size w s):=by
  have d:=y.out.1;rw[O.out]at d;exact d
 have u:=N.out _ G.out;refine wp_region_noPanic ?_;refine ji (λW=>W.cell? ⟨m,6,none⟩=some (.slice n L q)/\W.cell? ⟨h,0,none⟩=some (.int .i64 A)/\W.cell? ⟨h,1,none⟩=some (.int .i64 B)/\W.cell? ⟨h,2,none⟩=some (.string C)/\W.cell? ⟨h,3,none⟩=some (.slice xa D xc)) 15 (by kernel_rfl) ?_
 try simp only[eW]
 refine Kc 0 (v:= ?_) rfl (by kernel_rfl) (λ_ _ _ d=>d) rfl ?_ u ?_;rotate_left
 ·intro w' f
  try dsimp only at f
  go_simp
  try with_reducible rfl
 try simp only[Act.put,bT]
 refine Kc 1 (v:= ?_) rfl (by kernel_rfl) (λ_ _ _ d=>d) rfl ?_ u ?_;rotate_left
 ·intro w' f
  try dsimp only at f
  go_simp
  try with_reducible rfl
 try simp only[Act.put]
 refine Kc 2 (v:= ?_) rfl (by kernel_rfl) (λ_ _ _ d=>d) rfl ?_ u ?_;rotate_left
 ·intro w' f
  try dsimp only at f
  go_simp
  try with_reducible rfl
 try simp only[Act.put]
 refine Kc 3 (v:= ?_) rfl (by kernel_rfl) (λ_ _ _ d=>d) rfl ?_ u ?_;rotate_left
 ·intro w' f
  try dsimp only at f
  go_simp
  try with_reducible rfl
 try simp only[Act.put]
 refine Kc 4 (v:= ?_) rfl (by kernel_rfl) (λ_ _ _ d=>d) rfl ?_ u ?_;rotate_left
 ·intro w' f
  try dsimp only at f
  go_simp
  try with_reducible rfl
 try simp only[Act.put]
 refine Kc 5 (v:= ?_) rfl (by kernel_rfl) (λ_ _ _ d=>d) rfl ?_ u ?_;rotate_left
 ·intro w' f
  try dsimp only at f
  go_simp
  try with_reducible rfl
 try simp only[Act.put]
 refine Kc 6 (v:= ?_) rfl (by kernel_rfl) (λ_ _ _ d=>d) rfl ?_ u ?_;rotate_left
 ·intro w' f
  try dsimp only at f
  go_simp
  try with_reducible rfl
 try simp only[Act.put]
 refine Kc 7 (v:= ?_) rfl (by kernel_rfl) (λ_ _ _ d=>d) rfl ?_ u ?_;rotate_left
 ·intro w' f
  try dsimp only at f
  go_simp
  try with_reducible rfl
 try simp only[Act.put]
 refine Kc 8 (v:= ?_) rfl (by kernel_rfl) (λ_ _ _ d=>d) rfl ?_ u ?_;rotate_left
 ·intro w' f
  try dsimp only at f
  go_simp
  try with_reducible rfl
 try simp only[Act.put]
 refine cV (i:=9) (by kernel_rfl) rfl rfl (λx l=>?_) (by decide)
 go_simp
 refine(aa.out _ (z.out.trans (G.out.mono z.out.size))).mono ?_;rintro e j ⟨y0,y1,y2,ya,yl,yc,rfl,I⟩;have E:=ao (G.out.trans (I.out.1.mono G.out.size));have S:=N.out j E.out;refine l.out _ _ (λ_=>S) (λ_=>?_);clear l x
 try simp only[Act.put,bT,dg,df]
 refine Kc 10 (v:= ?_) rfl (by kernel_rfl) (λ_ _ _ d=>d) rfl ?_ S ?_;rotate_left
 ·intro w' f
  try dsimp only at f
  go_simp
  try with_reducible rfl
 try simp only[Act.put,bT]
 have F:=ao (z.out.trans (E.out.mono z.out.size));obtain⟨o,ar⟩:∃o:Obj,o=.cells #[.string wt,.int .i64 a,.int .i64 b,.int .i64 y0,.int .i64 y1,.string y2,.slice ya yl yc] 40:=⟨_,rfl⟩;have K:Hid (Below j.heap.size j (j.alloc o)):=(ap _ _).alloc (ak _) o;have ai:=ao (N.out _ (E.out.trans (K.out.mono E.out.size)));have ae:Hid ((j.alloc o).ownsRow base 40 7 (.slice n L q) L xs):=bf ah.out (aI (F.out.trans (K.out.mono F.out.size)) λ_=>False) λ_ _ d=>d;have ad:Hid ((j.alloc o).heap[j.heap.size]?=some o):=aB j o;have U:Hid ((j.alloc o).heap.size=j.heap.size+1):=(show _=_ by simp);rw[ar]at K ai ae ad U;clear ar o;refine cV (i:=11) (by kernel_rfl) rfl rfl (λx l=>?_) (by decide)
 go_simp
 refine l.out _ _ (λ_=>ai.out) (λaC=>?_);clear l x
 try simp only[Act.put,bT,dg,df]
 refine cV (i:=12) (by kernel_rfl) rfl rfl (λx l=>?_) (by decide);refine wp_append_lies _ _ _ 38 rfl base 40 aJ _ 7 88 Tryz.underlying38 M.out.1 M.out.2.1 M.out.2.2.1 M.out.2.2.2 rfl (by decide) (.slice n L q) L xs rfl ae.out ⟨j.heap.size,0,none⟩ 1 1 [.string wt,.int .i64 a,.int .i64 b,.int .i64 y0,.int .i64 y1,.string y2,.slice ya yl yc] rfl rfl (World.news_of_block (cs:= #[.string wt,.int .i64 a,.int .i64 b,.int .i64 y0,.int .i64 y1,.string y2,.slice ya yl yc]) (t:=40) (fr:=(0,0)) ad.out) (by simp[Value.oneCell']) (by decide) (by unfold maxLen;omega) (by omega) (by have:=U.out;have:=F.out.size;omega) _ rfl ?_;intro P aj r au an al aF;have H:Hid (bq (λaL=>(Value.slice n L q).ownBlock=some aL) j r):=bq.trans (aI K.out _) (dU an) λ_ _ e=>e;have Y:Hid ((Value.slice n L q).ownBlock=some P\/j.heap.size<=P):=al.imp id λe=>by have:=U.out;omega
 have af:=ao au;have J:Hid ((r.cell? ⟨m,6,none⟩=some (.slice n L q)/\r.cell? ⟨h,0,none⟩=some (.int .i64 A)/\r.cell? ⟨h,1,none⟩=some (.int .i64 B)/\r.cell? ⟨h,2,none⟩=some (.string C)/\r.cell? ⟨h,3,none⟩=some (.slice xa D xc))/\r.frozen? ⟨m,6,none⟩=false):=by
  have aG:¬(Value.slice n L q).ownBlock=some h:=λe=>by
   have:=(ah.out.lt h e).2;have:=O.out;omega
  have aH:h<j.heap.size:=by
   have:=E.out.size;have:=(aD.1 y.out.2).1;omega
  have av:m<j.heap.size:=aN X F.out.size;obtain⟨aM,aO,aP,aQ,aR⟩:=S;have k:=λaK=>H.out.cell aK aH aG;refine⟨⟨(H.out.cell 6 av ab.out).trans aM,(k 0).trans aO,(k 1).trans aP,(k 2).trans aQ,(k 3).trans aR⟩,?_⟩;have am:=Z.out.2;unfold World.frozen? at am ⊢;rw[H.out.block m av ab.out,F.out.block m X];exact am
 clear au an al aF;refine l.out _ _ (λ_=>J.out.1) (λV=>?_);clear l x
 try simp only[Act.put,bT]
 refine cV (i:=13) (by kernel_rfl) rfl rfl (λx l=>?_) (by decide)
 go_simp
 refine l.out _ _ (λ_=>V) (λ_=>?_);clear l x
 try simp only[Act.put,bT,dg,df]
 refine Kc 14 (v:= ?_) rfl (by kernel_rfl) (λ_ _ _ d=>d) rfl ?_ V ?_;rotate_left
 ·intro w' f
  try dsimp only at f
  go_simp
  try with_reducible rfl
 try simp only[Act.put,bT]
 have aT:=J.out.2;have aS:=J.out.1.1;refine jh (by kernel_rfl) rfl rfl (by kernel_rfl) (λx l=>?_)
 go_simp
 refine l.out _ _ (NoPanic.normal ?_);clear l x
 try simp only[Act.put,bT,dg,df]
 have aA:Hid (L0 base wt a b n L q xs R w r P aj):=⟨s.drew,j,y0,y1,y2,ya,yl,yc,z.out.trans (G.out.mono z.out.size),I.out.1,I.out.2,H.out,af.out,Y.out⟩;clear N aa J af Y H I u V aC S;exact dR (v:=.tuple #[]) (by simp[results]) rfl ⟨rfl,P,aj,r,rfl,aA.out⟩
def zk(b:Nat):Value:=aF b
def vt{b:Type}(f:b->Value)(w:World)(c:Nat)(l:List (Int×b)):Prop:=∃es a,w.heap[c]?=some (.map es a)/\es.toList.map (λe=>(e.key,e.val))=l.map (λp=>(ab p.1,f p.2))/\Stamped es a
def cQ{a:Type}(l:List (Int×a))(k:Int):Option a:=(l.find? λp=>p.1==k).map (·.2)
section
variable {α:Type} {f:α->Value}
theorem Eg(k:Int):(es:List MapEntry)->(l:List (Int×α))->(i:Nat)->es.map (λe=>(e.key,e.val))=l.map (λp=>(ab p.1,f p.2))-> Instr.findNow (.int .i64) (ab k) es i=some ((l.findIdx? (λp=>p.1==k)).map λj=>(i+j,((cQ l k).map f).getD undef))
 | [],[],_,_=>rfl
 | [],_::_,_,h=>by simp at h
 | _::_,[],_,h=>by simp at h
 | e::es,p::l,i,h=>by
  rw[aK,aK,List.cons.injEq]at h;obtain⟨b,g⟩:=h;have d:e.key=ab p.1:=(Prod.mk.inj b).1;have n:e.val=f p.2:=(Prod.mk.inj b).2;have ih:=Eg k es l (i+1) g;by_cases a:p.1=k
  ·have c:(k==p.1)=true:=by simp[a]
   simp[Instr.findNow,Instr.sameNow,d,n,a,List.findIdx?_cons,cQ]
  ·have c:(k==p.1)=false:=by simpa using λe=>a e.symm
   have m:(p.1==k)=false:=by simpa using a
   rw[Instr.findNow,d];simp only[Instr.sameNow,cI,c];rw[ih];simp only[List.findIdx?_cons,cQ,jk,m];congr 1;cases List.findIdx? (λp=>p.1==k) l with
   | none=>rfl
   | some j=>simp;omega
theorem mN{w:World}{es:Array MapEntry}{l:List (Int×α)}(k:Int)(b:es.toList.map (λe=>(e.key,e.val))=l.map λp=>(ab p.1,f p.2)):(Instr.findKey 3 (ab k) es.toList).run Tryz.prog w=.ok ((l.findIdx? (λp=>p.1==k)).map λj=>(j,((cQ l k).map f).getD undef)) w:=by
 have c:=Tryz.underlying3;have a:=Eg k es.toList l 0 b;simp only[cT]at a;simp[Instr.findKey,co c,Result.andThen,a]
theorem kG(w:World)(em:Bool)(k:Int):(Instr.checkKey em 10000 3 (ab k)).run Tryz.prog w=.ok () w:=by
 have a:=Tryz.underlying3;unfold Instr.checkKey;simp[co a,Result.andThen]
theorem yd{l:List (Int×α)}{k:Int}(a:cQ l k=none):l.findIdx? (λp=>p.1==k)=none:=by
 unfold cQ at a;rw[oK];intro p b;rw[Option.map_eq_none_iff,oJ]at a;simpa using a p b
theorem KY{l:List (Int×α)}{k:Int}{b:α}(a:cQ l k=some b):∃j,l.findIdx? (λp=>p.1==k)=some j:=by
 cases e:l.findIdx? (λp=>p.1==k)with
 | some j=>exact⟨j,rfl⟩
 | none=>
  unfold cQ at a;rw[oK]at e;have:l.find? (λp=>p.1==k)=none:=oJ.2 λp c=>by simpa using e p c
  rw[this]at a;cases a
variable {w:World} {mb mt et:Nat} {l:List (Int×α)}
theorem vt.look(i:vt f w mb l)(h:Tryz.prog.underlying mt=some (.map 3 et)){e:Value}(n:(zeroValue et).run Tryz.prog w=.ok e w)(k:Int)(c:Bool):(cQ l k=none->(Instr.lookup mt (.map (some mb)) (ab k) c).run Tryz.prog w=.ok (if c then .tuple #[e,.bool false]else e) w)/\ ∀b,cQ l k=some b->(Instr.lookup mt (.map (some mb)) (ab k) c).run Tryz.prog w=.ok (if c then .tuple #[f b,.bool true]else f b) w:=by
 obtain⟨es,o,g,j,_⟩:=i;have d:=mN (w:=w) k j;refine⟨λa=>?_,λb a=>?_⟩
 ·rw[yd a]at d;simp[Instr.lookup,co h,kt g,kG,d,Result.andThen,n]
 ·obtain⟨p,m⟩:=KY a;rw[m]at d;simp[Instr.lookup,co h,kt g,kG,d,Result.andThen,a]
theorem vt.put(m:vt f w mb l)(o:Tryz.prog.underlying mt=some (.map 3 et)){k:Int}(i:cQ l k=none)(b:α):∃w',(Instr.mapUpdate mt (.map (some mb)) (ab k) (f b)).run Tryz.prog w=.ok () w'/\vt f w' mb (l++ [(k,b)])/\bq (λq=>q=mb) w w'/\w'.heap.size=w.heap.size:=by
 obtain⟨es,u,a,e,n⟩:=m;have h:=mN (w:=w) k e;rw[yd i]at h;refine⟨_,by simp[Instr.mapUpdate,co o,kt a,kG,h,MapKept.run_setObj_map _ a,Result.andThen];rfl,⟨_,_,(heap_set a).1,?_,stamped_push n λg s j=>?_⟩,?_,?_⟩
 ·simp[e]
 ·have t:(g.key,g.val)∈l.map λc=>(Value.int .i64 c.1,f c.2):=e▸ci.2 ⟨g,s,rfl⟩;obtain⟨c,p,d⟩:=ci.1 t;rw[j]at d;have:=oK.1 (yd i) c p;simp at d;simp[d.1]at this
 ·exact⟨rfl,rfl,rfl,by simp,λq _ r=>(heap_set a).2 q r⟩
 ·simp
theorem As{α a:Type}(f:α->a)(l:List α)(i:Nat):(l.map f).eraseIdx i=(l.eraseIdx i).map f:=by
 simp[r8,List.map_take,List.map_drop]
theorem vt.del(m:vt f w mb l)(j:Tryz.prog.underlying mt=some (.map 3 et))(k:Int):∃w',(∀ty,(Builtin.delete_ #[mt,3] ty #[.map (some mb),ab k]).run Tryz.prog w=.ok (.tuple #[]) w')/\vt f w' mb (l.eraseP λp=>p.1==k)/\bq (λq=>q=mb) w w'/\w'.heap.size=w.heap.size:=by
 obtain⟨es,h,a,b,i⟩:=m;have c:=mN (w:=w) k b;cases e:l.findIdx? (λp=>p.1==k)with
 | none=>
  rw[e]at c;refine⟨{w with heap:=w.heap.setIfInBounds mb (.map es h)},λty=>by simp[Builtin.delete_,co j,kt a,kG,c,MapKept.run_setObj_map _ a,Result.andThen],⟨_,_,(heap_set a).1,?_,i⟩,?_,?_⟩
  ·rw[List.eraseP_of_forall_not λp r=>by have:=oK.1 e p r;rw[this];decide];exact b
  ·exact⟨rfl,rfl,rfl,by simp,λq _ d=>(heap_set a).2 q d⟩
  ·simp
 | some g=>
  rw[e]at c;refine⟨{w with heap:=w.heap.setIfInBounds mb (.map (es.eraseIdxIfInBounds g) h)},λty=>by simp[Builtin.delete_,co j,kt a,kG,c,MapKept.run_setObj_map _ a,Result.andThen],⟨_,_,(heap_set a).1,?_,stamped_erase i g⟩,?_,?_⟩
  ·have o:g<es.size:=by
     have s:=(List.findIdx?_eq_some_iff_getElem.1 e).1;have n:=congrArg List.length b;simp at n;omega
   rw[List.eraseP_eq_eraseIdx,e];simp only[Array.eraseIdxIfInBounds,o,dite_true,Array.toList_eraseIdx];rw[<-As,<-As,b]
  ·exact⟨rfl,rfl,rfl,by simp,λq _ d=>(heap_set a).2 q d⟩
  ·simp
theorem vt.len(a:vt f w mb l)(e:Tryz.prog.underlying mt=some (.map 3 et))(ty:TypeId):(Builtin.len_ #[mt] ty #[.map (some mb)]).run Tryz.prog w=.ok (ab l.length) w:=by
 obtain⟨es,g,b,c,_⟩:=a;have d:es.size=l.length:=by
  have:=congrArg List.length c;simpa using this
 simp[Builtin.len_,co e,kt b,Result.andThen,d];unfold goInt
 go_num
theorem vt.kept{w':World}(b:vt f w mb l)(e:w'.heap[mb]?=w.heap[mb]?):vt f w' mb l:=by
 obtain⟨es,a,c,d⟩:=b;exact⟨es,a,e.trans c,d⟩
theorem vt.new(w:World):vt f (w.alloc (.map #[] 0)) w.heap.size []:=⟨#[],0,aB _ _,rfl,stamped_empty 0⟩
end
abbrev IM(w:World)(a:Nat)(l:List (Int×Nat)):Prop:=vt zk w a l
theorem IM.look{w:World}{a:Nat}{l:List (Int×Nat)}(d:IM w a l)(k:Int)(c:Bool):(cQ l k=none->(Instr.lookup 62 (.map (some a)) (ab k) c).run Tryz.prog w=.ok (if c then .tuple #[.pointer none,.bool false]else .pointer none) w)/\ ∀b,cQ l k=some b->(Instr.lookup 62 (.map (some a)) (ab k) c).run Tryz.prog w=.ok (if c then .tuple #[zk b,.bool true]else zk b) w:=
 vt.look d Tryz.underlying62 (by kernel_rfl) k c
theorem Cx(w:World)(k:Int)(c:Bool):(Instr.lookup 62 (.map none) (ab k) c).run Tryz.prog w=.ok (if c then .tuple #[.pointer none,.bool false]else .pointer none) w:=by
 have b:=Tryz.underlying62;have d:(zeroValue 60).run Tryz.prog w=.ok (.pointer none) w:=by kernel_rfl
 have a:=mN (f:=zk) (w:=w) (es:= #[]) (l:=[]) k rfl;simp[Instr.lookup,co b,kG,a,Result.andThen,d]
structure lB where
 lo:Nat
 b:Nat
 room:Int
 n:Nat
 prog:List (Bh (n+1))
 pa:Option Addr
 pc:Nat
structure gu where
 ow:Nat->Int
 po:Option Nat
 l:List (Int×Nat)
 wo:Option Nat
 wn:Nat
 f:Int×Int->List Tc
 sl:Int×Int->Value
 bo:Option Nat
 bn:Nat
 ev:Value
 es:List (ByteArray×Int×Int×Tc)
 k:Nat
def dP(p:lB)(s:Sy)(d:gu):Array Value:= #[ae p.pa p.prog.length p.pc,ab p.room,ab s.last,.map d.po,.map d.wo,.map d.bo,d.ev]
def zm(p:lB)(s:Sy)(d:gu):BL:=⟨p.b,4,dP p s d,70⟩
def Ma(p:lB)(s:Sy)(d:gu):BL:=⟨p.b,5,dP p s d,70⟩
def G3(e:ByteArray×Int×Int×Tc):List Value:=[af e.1,ab e.2.1,ab e.2.2.1,ab e.2.2.2.1.1,ab e.2.2.2.1.2.1,af e.2.2.2.1.2.2,ae e.2.2.2.2.1.1 e.2.2.2.2.2.length e.2.2.2.2.1.2]
def Ad(t:Tc):Prop:=bu 13 t=0\/(t.1=(0,0,⟨#[]⟩)/\t.2.2=[])
structure bi (p:lB) (s:Sy) (d:gu) (w:World):Prop where
 low:∀b,d.ow b≠0->p.lo<=b/\b<w.heap.size
 box:w.heap[p.b]?=some (.cells (dP p s d) 70)
 own:d.ow p.b=-5
 pg:(gP (p.n+1) w.heap.size w p.pa p.prog/\sP (jC (p.n+1) λb=>d.ow b=-4) (λb=>d.ow b=-4) p.pa p.prog)/\(p.prog.length<=p.pc/\p.pc<=maxLen/\nt p.n p.prog=0/\(aw (p.n+6) (bW p.n p.prog)).length<=2097152)
 pm:(d.po=none/\d.l=[])\/∃mb,d.po=some mb/\d.ow mb=-5/\mb≠p.b/\IM w mb d.l
 keys:d.l.map (·.1)=s.ps.map (·.1)/\(s.ps.map (·.1)).Nodup/\(∀q∈s.ps,1<=q.1/\q.1<=s.last)/\0<=s.last/\s.last<=90/\s.ps.length<=12
 ps:∀k b,cQ d.l k=some b->∃nm cs cms,s.get k=some (nm,cs,cms)/\P1 p.lo b nm p.room cs cms (d.k+201) (λq=>d.ow q=k) w/\cms.length<=20
 wy:gS p.lo (zm p s d) d.wo d.wn 13 d.f d.sl w/\(∀b,ri (zm p s d) d.wo d.sl b->b=p.b\/d.ow b=-1)/\(∀k,(d.f k).map (cn 13)=s.ways k)/\(∀k,(d.f k).length<=20)/\∀k,∀y∈d.f k,bu 13 y=0/\aJ 13 y=true/\In w.heap.size w 13 y/\bZ (λb=>d.ow b=-1/\¬ri (zm p s d) d.wo d.sl b) 13 y
 bd:ex p.lo (Ma p s d) d.bo d.bn s.bonds w/\vu s.bonds/\∀b,d.bo=some b->d.ow b=-2
 evr:w.ownsRow p.lo 40 7 d.ev d.es.length (d.es.flatMap G3)/\∀b,d.ev.ownBlock=some b->d.ow b=-3
 evt:d.es.map (λe=>(e.1,e.2.1,e.2.2.1,cn 13 e.2.2.2))=s.evs/\∀e∈d.es,(In w.heap.size w 13 e.2.2.2/\bZ (λb=>d.ow b=-3/\d.ev.ownBlock≠some b) 13 e.2.2.2)/\Ad e.2.2.2
theorem eP{S D:Nat->Prop}{w w':World}(c:bq S w w')(e:∀b,D b->¬S b){n:Nat}{x:Tm n}(a:In w.heap.size w n x/\bZ D n x):In w'.heap.size w' n x/\bZ D n x:=
 ⟨(In.off (P:=λb=>D b/\b<w.heap.size) (λb d=>c.block b d.2 (e b d.1)) (In.offB a.2 a.1) a.1).mono c.size,a.2⟩
theorem Fw{l:List (Int×Nat)}{k:Int}{b:Nat}(a:cQ l k=some b):(k,b)∈l:=by
 unfold cQ at a;cases c:l.find? (λe=>e.1==k)with
 | none=>rw[c]at a;cases a
 | some e=>
  rw[c]at a;have f:=sf c;have d:=List.find?_some c;simp at a d;subst a d;exact f
theorem bi.key{p:lB}{s:Sy}{d:gu}{w:World}(a:bi p s d w){k:Int}{b:Nat}(e:cQ d.l k=some b):1<=k/\k<=s.last:=by
 have c:k∈d.l.map (·.1):=ci.2 ⟨_,Fw e,rfl⟩;rw[a.keys.1]at c;obtain⟨g,f,rfl⟩:=ci.1 c;exact a.keys.2.2.1 g f
theorem gS.turn{base:Nat}{p e:BL}{d:Option Nat}{n N:Nat}{f:Int×Int->List (Tm N)}{sl:Int×Int->Value}{w w':World}(c:gS base p d n N f sl w){S:Nat->Prop}(o:bq S w w')(l:∀b,ri p d sl b->b≠p.b->¬S b)(q:e.b=p.b)(j:sN e d w'):gS base e d n N f sl w':=by
 refine⟨by rw[q];exact c.1,j,?_⟩;rcases c.2.2 with a|⟨r,rfl,m⟩
 ·exact ah a
 ·refine ai ⟨r,rfl,m.kee o λb g=>l b (Ee g) λa=>?_⟩;rcases g with rfl|⟨k,h,i⟩
  ·exact vo c a.symm
  ·exact zi c h (by rw[i,a])
theorem ex.turn{base:Nat}{p c:BL}{a:Option Nat}{n:Nat}{g:Int×Int->Bool}{w w':World}(d:ex base p a n g w){S:Nat->Prop}(j:bq S w w')(i:∀b:Nat,a=Option.some b->¬S b)(k:c.b=p.b)(h:sN c a w'):ex base c a n g w':=by
 refine⟨by rw[k];exact d.1,h,?_⟩;rcases d.2.2 with f|⟨e,rfl,l⟩
 ·exact ah f
 ·exact ai ⟨e,rfl,l.kee j (i e rfl)⟩
section
variable {p:lB} {s:Sy} {d:gu} {w w':World} {ow:Nat->Int} {S:Nat->Prop}
theorem bi.pgK(e:bi p s d w)(f:bq S w w')(g:∀b,d.ow b=-4->¬S b)(h:∀b,d.ow b≠0->ow b=d.ow b):gP (p.n+1) w'.heap.size w' p.pa p.prog/\sP (jC (p.n+1) λb=>ow b=-4) (λb=>ow b=-4) p.pa p.prog:=by
 have c:=cB (dN (p.n+1)) 2 (oW (p.n+1)) p.pa;exact⟨c.2.2.2.1 _ _ _ _ f.size (c.2.2.1 _ _ _ w' _ (λb a=>f.block b a.2 (g b a.1)) (c.2.1 _ _ _ _ e.pg.1.2 e.pg.1.1) e.pg.1.1),c.1 _ _ _ (λb a=>(h b (by rw[a];decide)).trans a) e.pg.1.2⟩
theorem bi.pmK(f:bi p s d w)(k:bq S w w')(j:∀b,d.ow b=-5->b≠p.b->¬S b)(m:∀b,d.ow b≠0->ow b=d.ow b):(d.po=none/\d.l=[])\/∃a,d.po=some a/\ow a=-5/\a≠p.b/\IM w' a d.l:=by
 rcases f.pm with g|⟨a,h,c,e,i⟩
 ·exact ah g
 ·exact ai ⟨a,h,(m a (by rw[c];decide)).trans c,e,i.kept (k.block a (f.low a (by rw[c];decide)).2 (j a c e))⟩
theorem bi.psK(f:bi p s d w)(c:bq S w w'){k:Int}{b j:Nat}(o:d.k<=j)(n:∀b,d.ow b=k->¬S b)(t:∀b,d.ow b≠0->ow b=d.ow b)(r:∀b,ow b≠0->p.lo<=b/\b<w'.heap.size)(g:cQ d.l k=some b):∃nm cs a,s.get k=some (nm,cs,a)/\P1 p.lo b nm p.room cs a (j+201) (λq=>ow q=k) w'/\a.length<=20:=by
 obtain⟨nm,cs,a,h,i,m⟩:=f.ps k b g;have u:=(f.key g).1;exact⟨nm,cs,a,h,(i.kept (S:=S) ⟨c.os,c.tape,c.output,c.size,c.block⟩ n).mono (λb e=>(t b (by rw[e];omega)).trans e) (Nat.add_le_add_right o 201) λb e=>r b (by rw[e];omega),m⟩
theorem bi.wyK(e:bi p s d w)(j:bq S w w')(i:∀b,d.ow b=-1->¬S b)(l:∀b,d.ow b≠0->ow b=d.ow b){q:BL}(m:q.b=p.b)(o:sN q d.wo w'):gS p.lo q d.wo d.wn 13 d.f d.sl w'/\(∀b,ri q d.wo d.sl b->b=p.b\/ow b=-1)/\∀k,∀y∈d.f k,bu 13 y=0/\aJ 13 y=true/\In w'.heap.size w' 13 y/\bZ (λb=>ow b=-1/\¬ri q d.wo d.sl b) 13 y:=by
 have h:∀b,ri q d.wo d.sl b ↔ ri (zm p s d) d.wo d.sl b:=λb=>by
  unfold ri;rw[m];exact Iff.rfl
 refine⟨e.wy.1.turn j (λb c r=>?_) m o,λb c=>(e.wy.2.1 b ((h b).1 c)).imp id λa=>(l b (by rw[a];decide)).trans a,λk y t=>?_⟩
 ·rcases e.wy.2.1 b c with a|a
  ·exact absurd a r
  ·exact i b a
 ·obtain⟨y1,y2,u⟩:=e.wy.2.2.2.2 k y t;have n:=eP j (λb q=>i b q.1) u;exact⟨y1,y2,n.1,n.2.mono λb g=>⟨(l b (by rw[g.1];decide)).trans g.1,λc=>g.2 ((h b).1 c)⟩⟩
theorem bi.bdK(a:bi p s d w)(g:bq S w w')(f:∀b,d.ow b=-2->¬S b)(h:∀b,d.ow b≠0->ow b=d.ow b){q:BL}(i:q.b=p.b)(e:sN q d.bo w'):ex p.lo q d.bo d.bn s.bonds w'/\vu s.bonds/\∀b,d.bo=some b->ow b=-2:=
 ⟨a.bd.1.turn g (λb c=>f b (a.bd.2.2 b c)) i e,a.bd.2.1,λb c=>(h b (by rw[a.bd.2.2 b c];decide)).trans (a.bd.2.2 b c)⟩
theorem bi.evK(c:bi p s d w)(h:bq S w w')(f:∀b,d.ow b=-3->¬S b)(i:∀b,d.ow b≠0->ow b=d.ow b):(w'.ownsRow p.lo 40 7 d.ev d.es.length (d.es.flatMap G3)/\∀b,d.ev.ownBlock=some b->ow b=-3)/\∀e∈d.es,(In w'.heap.size w' 13 e.2.2.2/\bZ (λb=>ow b=-3/\d.ev.ownBlock≠some b) 13 e.2.2.2)/\Ad e.2.2.2:=by
 refine⟨⟨bf c.evr.1 h λb a=>f b (c.evr.2 b a),λb a=>(i b (by rw[c.evr.2 b a];decide)).trans (c.evr.2 b a)⟩,λe g=>⟨?_,(c.evt.2 e g).2⟩⟩;have j:=eP h (λb a=>f b a.1) (c.evt.2 e g).1;exact⟨j.1,j.2.mono λb a=>⟨(i b (by rw[a.1];decide)).trans a.1,a.2⟩⟩
theorem pV{d:gu}{w:World}(a:w.heap[p.b]?=some (.cells (dP p s d) 70)):sN (zm p s d) d.wo w/\sN (Ma p s d) d.bo w:=by
 refine⟨⟨⟨by simp[zm,dP],by simp[zm]⟩,?_⟩,⟨⟨by simp[Ma,dP],by simp[Ma]⟩,?_⟩⟩
 ·simp[zm,dP,a]
 ·simp[Ma,dP,a]
theorem bi.kept(a:bi p s d w)(c:bq S w w')(n:∀b,S b->d.ow b=0):bi p s d w':=by
 have j:∀b,d.ow b≠0->¬S b:=λb e r=>e (n b r);have f:∀b,d.ow b≠0->d.ow b=d.ow b:=λ_ _=>rfl;have h:w'.heap[p.b]?=some (.cells (dP p s d) 70):=(c.block p.b (aD.1 a.box).1 (j p.b (by rw[a.own];decide))).trans a.box;have i:∀b,d.ow b≠0->p.lo<=b/\b<w'.heap.size:=λb e=>⟨(a.low b e).1,aN (a.low b e).2 c.size⟩;have t:∀{t:Int},t≠0->∀b,d.ow b=t->¬S b:=λo b g=>j b (by rw[g];exact o);obtain⟨y1,y2,q⟩:=a.wyK c (t (by decide)) f rfl (pV h).1;obtain⟨l,m⟩:=a.evK c (t (by decide)) f;exact⟨i,h,a.own,⟨a.pgK c (t (by decide)) f,a.pg.2⟩,a.pmK c (λb g _=>t (by decide) b g) f,a.keys,λk b e=>a.psK c (ak _) (t (by have:=(a.key e).1;omega)) f i e,⟨y1,y2,a.wy.2.2.1,a.wy.2.2.2.1,q⟩,a.bdK c (t (by decide)) f rfl (pV h).2,l,a.evt.1,m⟩
theorem bi.later(a:bi p s d w)(b:aj w w'):bi p s d w':=a.kept (aI b λ_=>False) λ_ q=>q.elim
end
def Nt(f g:Int)(h:ByteArray)(xa:Option Addr)(i xc:Nat)(t:Tc)(w:World):Prop:=
 ∀b,aj w b->am 54 #[.agg #[ab f,ab g,af h,ae xa i xc]] b λd c=>∃y0 y1 y2 ya yl yc,d=.returned (.agg #[ab y0,ab y1,af y2,ae ya yl yc])/\Hid (aj b c/\∃a:Tc,(a.1=(y0,y1,y2)/\a.2.1=(ya,yc)/\a.2.2.length=yl)/\(In c.heap.size c 13 a/\bZ (λe=>b.heap.size<=e) 13 a)/\cn 13 a=t/\Ad a)
theorem jU{m:Nat}{x:Tm (m+1)}{w:World}(n:In w.heap.size w (m+1) x)(g:bu (m+1) x=0):Nt x.1.1 x.1.2.1 x.1.2.2 x.2.1.1 x.2.2.length x.2.1.2 (cn (m+1) x) w:=λW f=>by
 have l:az ⟨m+1,x⟩:=aL.2 (bw.1 g).1;refine(gW (m+1) x W.heap.size W ((n.below f).mono f.size) (ak _) l).mono ?_;rintro e w' ⟨y,rfl,H⟩;obtain⟨i,j,k,d⟩:=H.out;have a:bu (m+1) y=0:=(bM d).trans g;have c:az ⟨m+1,y⟩:=aL.2 (bw.1 a).1;have b:fh (m+1) y<13:=by have:=(bw.1 a).2.1;omega
 have h:=jb 13 (m+1) y c b;refine⟨y.1.1,y.1.2.1,y.1.2.2,y.2.1.1,y.2.2.length,y.2.1.2,rfl,i,aO 13 (m+1) y,⟨rfl,rfl,by simp[aO]⟩,⟨rN 13 (m+1) y _ _ c b j,tm 13 (m+1) y _ c b k⟩,(gV h).trans (gV d),ah ((bM h).trans a)⟩
theorem Hy(w:World):Nt 0 0 ⟨#[]⟩ none 0 0 vp w:=λW h=>by
 refine(rE 12 0 0 ⟨#[]⟩ none 0 0 [] W (by decide) λw1 c=>?_).mono ?_
 ·refine(kV none 0 w1).mono ?_;rintro e w' ⟨rfl,rfl⟩;exact⟨none,0,[],rfl,ap _ _,rfl,ak _,aE _,rfl,ah rfl⟩
 ·rintro e w' ⟨a,b,l,rfl,H⟩;obtain⟨c,d,g,f,_⟩:=H.out;obtain rfl:l=[]:=bH d;exact⟨0,0,⟨#[]⟩,a,0,b,rfl,c,((0,0,⟨#[]⟩),(a,b),[]),⟨rfl,rfl,rfl⟩,⟨⟨⟨show dn 0 by unfold dn;decide,show dn 0 by unfold dn;decide,show (0:Nat)<=maxLen from aE _,aE _,f⟩,ah rfl⟩,ah rfl⟩,rfl,ai ⟨rfl,rfl⟩⟩
def Et(d:gu)(w w':World)(t:Int)(q:Nat):Int:=if w.heap.size<=q/\q<w'.heap.size then t else d.ow q
theorem tq{p:lB}{s:Sy}{d:gu}{w w':World}{t:Int}(a:bi p s d w)(e:w.heap.size<=w'.heap.size)(c:p.lo<=w.heap.size):∀b,Et d w w' t b≠0->p.lo<=b/\b<w'.heap.size:=λb q=>by
 unfold Et at q;split at q
 ·omega
 ·have:=a.low b q;omega
theorem tr{p:lB}{s:Sy}{d:gu}{w w':World}{t:Int}(a:bi p s d w):∀b,d.ow b≠0->Et d w w' t b=d.ow b:=λb q=>by
 have:=(a.low b q).2;exact if_neg (by omega)
theorem bi.lo{p:lB}{s:Sy}{d:gu}{w:World}(a:bi p s d w):p.lo<=w.heap.size/\p.b<w.heap.size:=by
 have:=a.low p.b (by rw[a.own];decide);omega
def xB(p:lB)(s:Sy)(d:gu)(wt:ByteArray)(a b:Int)(t:Tc)(w w':World):Prop:=
 ∃e f,bi p (s.tell wt a b t) {d with ow:=Et d w w' (-3),ev:=e,es:=d.es++ [(wt,a,b,f)]} w'/\bq (λc=>c=p.b\/d.ow c=-3) w w'
theorem bi.tell{p:lB}{s:Sy}{d:gu}{w:World}(g:bi p s d w)(wt:ByteArray)(a b V W:Int)(X:ByteArray)(xa:Option Addr)(Y xc:Nat)(t:Tc)(aD:Nt V W X xa Y xc t w)(aC:d.es.length<=100000):am 44 #[aF p.b,af wt,ab a,ab b,.agg #[ab V,ab W,af X,ae xa Y xc]] w λe w'=>e=.returned (.tuple #[])/\Hid (xB p s d wt a b t w w'):=by
 obtain⟨aa,ap⟩:=g.lo;obtain⟨y,z,m⟩:∃y z,d.ev=ae y d.es.length z:=by
  rcases g.evr.1.2 with⟨e,aA⟩|⟨i,c,aR,e,_⟩
  ·exact⟨none,0,by rw[e,aA]⟩
  ·exact⟨_,c,e⟩
 have O:=g.box;have I:d.ev.ownBlock≠some p.b:=λe=>by
  have u:=g.evr.2 _ e;rw[g.own]at u;cases u
 have ao:=g.evr.1;rw[m]at ao I;refine(Dr p.lo p.b wt a b V W X xa Y xc y d.es.length z _ (λK w' y0 y1 y2 ya yl yc=>∃l:Tc,(l.1=(y0,y1,y2)/\l.2.1=(ya,yc)/\l.2.2.length=yl)/\(In w'.heap.size w' 13 l/\bZ (λf=>K.heap.size<=f) 13 l)/\cn 13 l=t/\Ad l) w aC ap aa ⟨?_,by simp[World.frozen?,O]⟩ ao I aD).mono ?_
 ·have u:=ag O 6;simp only[dP,cN,cY]at u;rw[m]at u;exact u
 rintro e w' ⟨rfl,av⟩;obtain⟨i,c,q,x,K,L,y0,y1,y2,ya,yl,yc,R,aN,⟨l,⟨M,N,aB⟩,Q,aE,aJ⟩,S,aq,J⟩:=av.out;have H:aj w L:=R.trans (aN.mono R.size);have P:bq (λaQ=>(Value.slice y d.es.length z).ownBlock=some aQ) w q:=(aI H _).trans S λ_ _ e=>e;have o:bq (λf=>f=p.b\/d.ow f=-3) w w':=by
  rw[x];refine(P.mono (T:=λf=>f=p.b\/d.ow f=-3) λf _ e=>ai (g.evr.2 f (by rw[m];exact e))).trans (bz q p.b 6 _) λf _ e=>ah e
 have aM:=o.size;have aU:w'.heap.size=q.heap.size:=by rw[x];simp[World.setCell]
 have Z:w'.heap[p.b]?=some (.cells (dP p (s.tell wt a b t) {d with ow:=Et d w w' (-3),ev:=ae (some ⟨i,0,none⟩) (d.es.length+1) c,es:=d.es++ [(wt,a,b,l)]}) 70):=by
  have v:q.heap[p.b]?=some (.cells (dP p s d) 70):=(P.block p.b ap I).trans O;rw[x];simp[World.setCell,bG,v,dP,Sy.tell]
 have ad:=tq (t:=-3) g aM aa;have n:=tr (w':=w') (t:=-3) g;have G:∀{U:Int},U≠ -3->U≠ -5->∀f,d.ow f=U->¬(f=p.b\/d.ow f=-3):=λF v f e h=>by
  rcases h with rfl|h
  ·rw[g.own]at e;exact v e.symm
  ·exact F (e.symm.trans h)
 have an:∀f,w.heap.size<=f->f<w'.heap.size->Et d w w' (-3) f=-3:=λf aw ax=>if_pos ⟨aw,ax⟩;obtain⟨ay,az⟩:=pV Z;obtain⟨E,j,r⟩:=g.wyK o (G (by decide) (by decide)) n rfl ay;refine⟨rfl,ae (some ⟨i,0,none⟩) (d.es.length+1) c,l,⟨ad,Z,(n p.b (by rw[g.own];decide)).trans g.own,⟨g.pgK o (G (by decide) (by decide)) n,g.pg.2⟩,g.pmK o (λf M N h=>?_) n,g.keys,λk b f=>g.psK o (ak _) (G (by have:=(g.key f).1;omega) (by have:=(g.key f).1;omega)) n ad f,⟨E,j,g.wy.2.2.1,g.wy.2.2.2.1,r⟩,g.bdK o (G (by decide) (by decide)) n rfl az,⟨?_,λf e=>?_⟩,?_,λe A=>?_⟩,o⟩
 ·rcases h with h|h
  ·exact N h
  ·rw[M]at h;cases h
 ·have e:[(wt,a,b,l)].flatMap G3=[af wt,ab a,ab b,ab y0,ab y1,af y2,ae ya yl yc]:=by simp[G3,M,N,aB]
  have v:w'.ownsRow p.lo 40 7 (ae (some ⟨i,0,none⟩) (d.es.length+1) c) (d.es.length+1) (d.es.flatMap G3++ [(wt,a,b,l)].flatMap G3):=by
   rw[e,x];refine bf aq (bz q p.b 6 _) λf aL h=>?_;have:i=f:=au aL;subst this h;rcases J with h|h
   ·exact I h
   ·have:=H.size;omega
  rw[<-kj]at v;simpa using v
 ·have B:i=f:=au e;subst B;rcases J with h|h
  ·have F:=g.evr.2 i (by rw[m];exact h);exact(n i (by rw[F];decide)).trans F
  ·have:=H.size;have:=(aq.lt i rfl).2;exact an i (by omega) (by omega)
 ·show _=s.evs++ [(wt,a,b,t)];rw[fJ,g.evt.1,aK,bX,aE]
 ·have aH:bq (λf=>f=p.b\/d.ev.ownBlock=some f) w w':=by
    rw[x,m];exact(P.mono (T:=λf=>f=p.b\/(Value.slice y d.es.length z).ownBlock=some f) λf _ e=>ai e).trans (bz q p.b 6 _) λf _ e=>ah e
  have aG:bq (λf=>f=p.b\/d.ev.ownBlock=some f) L w':=by
   rw[x,m];exact(S.mono (T:=λf=>f=p.b\/(Value.slice y d.es.length z).ownBlock=some f) λf _ e=>ai e).trans (bz q p.b 6 _) λf _ e=>ah e
  have aT:=H.size;rcases cR.1 A with A|A
  ·obtain⟨⟨ar,aO⟩,aP⟩:=g.evt.2 e A;refine⟨?_,aP⟩;have C:=eP aH (D:=λf=>(d.ow f=-3/\d.ev.ownBlock≠some f)/\f<w.heap.size) (λf E j=>?_) ⟨ar,In.offB aO ar⟩
   ·refine⟨C.1,C.2.mono λf h=>⟨(n f (by rw[h.1.1];decide)).trans h.1.1,λj=>?_⟩⟩;have B:i=f:=au j;subst B;rcases J with r|r
    ·exact h.1.2 (by rw[m];exact r)
    ·omega
   ·rcases j with rfl|j
    ·have:=E.1.1;rw[g.own]at this;cases this
    ·exact E.1.2 j
  ·obtain rfl:=de.1 A;refine⟨?_,aJ⟩;have aS:=R.size;have al:∀f,d.ev.ownBlock=some f->f<w.heap.size:=λf h=>(g.evr.1.lt f h).2;have C:=eP aG (D:=λf=>K.heap.size<=f/\f<L.heap.size) (λf E j=>?_) ⟨Q.1,In.offB Q.2 Q.1⟩
   ·have:=S.size;refine⟨C.1,C.2.mono λf h=>⟨an f (by omega) (by omega),λj=>?_⟩⟩;have B:i=f:=au j;subst B;rcases J with r|r
    ·have:=al i (by rw[m];exact r);omega
    ·omega
   ·rcases j with rfl|j
    ·omega
    ·have:=al f j;omega
theorem Ou{w:World}{q:Nat}{a b c d:Value}{T:TypeId}{fr:Nat×Nat}(e:w.heap[q]?=some (.cells #[a,b,c,d] T fr)):w.cell? ⟨q,0,none⟩=some a/\w.cell? ⟨q,1,none⟩=some b/\w.cell? ⟨q,2,none⟩=some c/\w.cell? ⟨q,3,none⟩=some d:=by simp[World.cell?,e]
theorem Fv{l:List (Int×Nat)}{ps:List (Int×ByteArray×Tc×List Tc)}(k:Int)(a:l.map (·.1)=ps.map (·.1)):(cQ l k).isSome=((ps.find? λp=>p.1==k).map (·.2)).isSome:=by
 induction l generalizing ps with
 | nil=>
  cases ps with
  | nil=>rfl
  | cons b ps=>simp at a
 | cons c l ih=>
  cases ps with
  | nil=>simp at a
  | cons b ps=>
   simp only[aK,List.cons.injEq]at a;have ih:=ih a.2;unfold cQ at ih ⊢;rw[jk,jk,a.1];cases b.1==k
   ·exact ih
   ·rfl
section
variable {p:lB} {s:Sy} {d:gu} {w:World}
theorem bi.alive(a:bi p s d w)(k:Int):(cQ d.l k).isSome=(s.get k).isSome:=Fv k a.keys.1
theorem bi.look(g:bi p s d w)(k:Int)(c:Bool):(Instr.lookup 62 (.map d.po) (ab k) c).run Tryz.prog w=.ok (if c then .tuple #[match cQ d.l k with|some b=>zk b|none=> .pointer none,.bool (cQ d.l k).isSome]else match cQ d.l k with|some b=>zk b|none=> .pointer none) w:=by
 rcases g.pm with⟨a,f⟩|⟨j,a,_,_,f⟩
 ·rw[a,f];have:=Cx w k c;cases c<;>exact this
 ·rw[a];obtain⟨h,i⟩:=f.look k c;cases e:cQ d.l k with
  | none=>
   rw[h e];cases c<;>rfl
  | some b=>
   rw[i b e];cases c<;>rfl
theorem bi.cells(c:bi p s d w):w.cell? ⟨p.b,0,none⟩=some (ae p.pa p.prog.length p.pc)/\w.cell? ⟨p.b,1,none⟩=some (ab p.room)/\w.cell? ⟨p.b,2,none⟩=some (ab s.last)/\w.cell? ⟨p.b,3,none⟩=some (.map d.po):=by
 have a:=c.box;exact⟨ag a 0,ag a 1,ag a 2,ag a 3⟩
theorem bi.isAlive(a:bi p s d w)(k:Int):am 49 #[aF p.b,ab k] w λe w'=>e=.returned (.bool (s.get k).isSome)/\w'=w:=by
 have i:=a.cells.2.2.2;have f:=a.look k true;rw[if_pos rfl]at f;have c:=a.alive k;obtain⟨h,g⟩:∃h,h=(s.get k).isSome:=⟨_,rfl⟩;rw[<-g]at c ⊢;rw[c]at f;generalize (match cQ d.l k with|some b=>zk b|none=> .pointer none)=m at f;clear c g;generalize d.po=j at*;clear a;go_enter Tryz.func49,Tryz.ntmps49;go_wp2_with fail
 go_ret
 exact⟨rfl,rfl⟩
theorem bi.len(c:bi p s d w)(ty:TypeId):(Builtin.len_ #[62] ty #[.map d.po]).run Tryz.prog w=.ok (ab s.ps.length) w:=by
 have e:d.l.length=s.ps.length:=by
  have:=congrArg List.length c.keys.1;simpa using this
 rcases c.pm with⟨a,b⟩|⟨f,a,_,_,b⟩
 ·rw[a,<-e,b];exact Maps.len_nil Tryz.underlying62 ty
 ·rw[a,<-e];exact vt.len b Tryz.underlying62 ty
theorem bi.mayHave(c:bi p s d w)(n:Nat)(r:n<=1000):am 37 #[aF p.b,ab n] w λe w'=>e=.returned (.bool (s.may n))/\w'=w:=by
 obtain⟨_,_,k,l⟩:=c.cells;have q:=c.len 3;obtain⟨_,_,_,t,u,v⟩:=c.keys;obtain⟨j,a⟩:∃j,j=s.may n:=⟨_,rfl⟩;rw[<-a];unfold Sy.may at a;generalize s.last=h at*;generalize s.ps.length=f at*;generalize d.po=x at*;clear c;have m:IntKind.i64.wrap ((f:Int)+n)=(f:Int)+n:=by rw[IntKind.wrap];simp[IntKind.bits,IntKind.signed];omega
 have o:IntKind.i64.wrap (h+n)=h+n:=by rw[IntKind.wrap];simp[IntKind.bits,IntKind.signed];omega
 go_enter Tryz.func37,Tryz.ntmps37;by_cases g:(f:Int)+n<=12
 ·by_cases i:h+n<=90
  ·rw[gN g,gN i]at a;subst a;go_wp2_with fail
   go_ret
   exact⟨rfl,rfl⟩
  ·rw[gN g,decide_eq_false i]at a;subst a;go_wp2_with fail
   go_ret
   exact⟨rfl,rfl⟩
 ·rw[decide_eq_false g]at a;subst a;go_wp2_with fail
  go_ret
  exact⟨rfl,rfl⟩
theorem CG(n:Nat)(nm:ByteArray)(l:List (Bh n))(q:Option Addr)(F len B r:Nat)(w:World)(J:l.length=len)(K:len<=9223372036854775807)(C:B<=w.heap.size)(_hsb:r<w.heap.size)(v:Hid (w.cell? ⟨r,0,none⟩=some (ae q len F)))(y:Hid (gP n B w q l)):am 38 #[aF r,af nm] w λe w'=>e=.returned (.bool (fX n nm l).isSome)/\aj w w':=by
 have H:=v.out;go_enter Tryz.func38,Tryz.ntmps38;go_wp2_with fail;go_loopw [12] (λm wr=>∃a:Nat,a<=len/\m=ab a/\Hid (aj w wr/\fX n nm l=fX n nm (l.drop a))) (λm _=>len-(intOf m).toNat)
 case atStart=>exact⟨0,by omega,rfl,ap _ _,rfl⟩
 case round=>
 obtain⟨a,I,rfl,c⟩:=hrel;by_cases L:a<len
 ·obtain⟨b,d⟩:∃b,l[a]?=some b:=⟨l[a]'(by omega),aH _⟩;obtain⟨j,lo,rfl,E,x⟩:∃g o,q=some ⟨g,o,none⟩/\g<B/\Hid (∀(t:Nat)(f:Value),(oW n b)[t]?=some f->w.cell? ⟨g,o+a*2+t,none⟩=some f):=by
   rcases y.out with e|⟨g,o,e,D,A⟩
   ·rw[e]at d;simp at d
   ·exact⟨g,o,e,D,(A a _ d).1⟩
  have h:∀(t:Nat)(f:Value),(oW n b)[t]?=some f->wr.cell? ⟨j,lo+a*2+t,none⟩=some f:=λt f u=>(c.out.1.cell (p:=⟨j,lo+a*2+t,none⟩) (aN E C)).trans (x.out t f u);have G:wr.cell? ⟨j,lo+a*2,none⟩=some (af b.1):=h 0 _ rfl;have O:wr.cell? ⟨j,lo+a*2+1,none⟩=some (ae b.2.1.1 b.2.2.length b.2.1.2):=h 1 _ rfl;have M:(0:Int)<=(a:Int):=by omega
  have N:(a:Int)<(len:Int):=by omega
  have s:Hid (∀o,aj w (wr.alloc o)):=λo=>c.out.1.alloc c.out.1.size o;by_cases i:b.1=nm
  ·have k:Hid (fX n nm l=some b):=by
     show _=_;rw[c.out.2,nX n nm d,if_pos i]
   rw[i]at G;clear h c d;go_wp2_with fail
   go_ret
   exact⟨bL (by rw[k.out];rfl),s.out _⟩
  ·have k:Hid (fX n nm l=fX n nm (l.drop (a+1))):=by
     show _=_;rw[c.out.2,nX n nm d,if_neg i]
   have u:(b.1.toList==nm.toList)=false:=by
    rw[gn];intro e;rw[b8,b8]at e;exact i (ByteArray.ext (Array.ext' e))
   clear h c d;go_wp2_with fail;go_roundw
   case rel=>exact⟨a+1,by omega,by go_num,s.out _,k.out⟩
   case measure=>simp[intOf];omega
 ·obtain rfl:a=len:=by omega
  have z:Hid (fX n nm l=none):=by
   show _=_;rw[c.out.2,oI (by omega)];rfl
  have HB:=ao c.out.1;clear c;go_wp2_with fail
  go_ret
  exact⟨bL (by rw[z.out];rfl),HB.out⟩
theorem bi.knows(a:bi p s d w)(nm:ByteArray):am 38 #[aF p.b,af nm] w λe w'=>e=.returned (.bool (kJ p.n p.prog nm))/\aj w w':=
 CG (p.n+1) nm p.prog p.pa p.pc p.prog.length w.heap.size p.b w rfl (ay a.pg.2.1 a.pg.2.2.1) (ak _) a.lo.2 a.cells.1 a.pg.1.1
end
theorem nC{g:Type}{k j:Int}(d:j≠k):(l:List (Int×g))->(l.eraseP λp=>p.1==k).find? (λp=>p.1==j)=l.find? λp=>p.1==j
 | []=>rfl
 | a::l=>by
  rw[List.eraseP_cons];by_cases b:a.1=k
  ·have c:(a.1==k)=true:=by simpa using b
   have f:(a.1==j)=false:=by simp[b];exact λe=>d e.symm
   simp[c,f]
  ·have c:(a.1==k)=false:=by simpa using b
   simp only[c,cond_false,jk];rw[nC d l]
theorem wa{g:Type}{k:Int}:(l:List (Int×g))->(l.map (·.1)).Nodup->(l.eraseP λp=>p.1==k).find? (λp=>p.1==k)=none
 | [],_=>rfl
 | a::l,hn=>by
  rw[aK,kp]at hn;rw[List.eraseP_cons];by_cases b:a.1=k
  ·have c:(a.1==k)=true:=by simpa using b
   simp only[c,cond_true];refine oJ.2 λf e=>?_;simp only[cm];intro d;exact hn.1 (ci.2 ⟨f,e,d.trans b.symm⟩)
  ·have c:(a.1==k)=false:=by simpa using b
   simp only[c,cond_false,jk];exact wa l hn.2
def dL(a:Nat)(d b:gu)(w w':World):Prop:=bq (λq=>d.ow q<0) w w'/\(∀q,q<w.heap.size->b.ow q=d.ow q)/\b.k=d.k/\b.es.length<=d.es.length+a/\b.wn<=d.wn+a/\b.bn<=d.bn+a
theorem dL.trans{a b:Nat}{d d1 f:gu}{w w1 w2:World}(j:dL a d d1 w w1)(k:dL b d1 f w1 w2):dL (a+b) d f w w2:=by
 obtain⟨h,i,l,p,q,r⟩:=j;obtain⟨m,n,o,t,u,v⟩:=k;have s:=h.size;exact⟨h.trans m λc e g=>by rw[i c e]at g;exact g,λc e=>(n c (by omega)).trans (i c e),o.trans l,by omega,by omega,by omega⟩
theorem dL.mono{a b:Nat}{d d1:gu}{w w1:World}(c:dL a d d1 w w1)(k:a<=b):dL b d d1 w w1:=by
 obtain⟨e,f,g,h,i,j⟩:=c;exact⟨e,f,g,by omega,by omega,by omega⟩
theorem dL.later(d:gu){w w1:World}(a:aj w w1):dL 0 d d w w1:=⟨aI a _,λ_ _=>rfl,rfl,ak _,ak _,ak _⟩
theorem xB.up{p:lB}{s:Sy}{d:gu}{wt:ByteArray}{a b:Int}{t:Tc}{w w':World}(f:bi p s d w)(k:xB p s d wt a b t w w'):∃e,bi p (s.tell wt a b t) e w'/\dL 1 d e w w':=by
 obtain⟨l,m,g,h⟩:=k;refine⟨_,g,h.mono λi _ c=>?_,λi j=>if_neg (by omega),rfl,by simp,fL _,fL _⟩;rcases c with c|c
 ·rw[c,f.own];decide
 ·rw[c];decide
section
variable {p:lB} {s:Sy} {d:gu} {w:World}
theorem bi.del(a:bi p s d w)(k:Int):∃w',(∀ty,(Builtin.delete_ #[62,3] ty #[.map d.po,ab k]).run Tryz.prog w=.ok (.tuple #[]) w')/\bi p {s with ps:=s.ps.eraseP λq=>q.1==k} {d with l:=d.l.eraseP λq=>q.1==k} w'/\bq (λq=>d.ow q=-5/\q≠p.b) w w':=by
 have J:(d.l.eraseP λq=>q.1==k).map (·.1)=(s.ps.eraseP λq=>q.1==k).map (·.1):=by
  have e:=congrArg (λl=>l.eraseP (λq=>q==k)) a.keys.1;simpa [List.eraseP_map,Function.comp_def]using e
 obtain⟨E,u,F,G,H,I⟩:=a.keys;have L:(d.l.map (·.1)).Nodup:=by rw[E];exact u
 have v:∀(w':World),bq (λq=>d.ow q=-5/\q≠p.b) w w'->((d.po=none/\d.l.eraseP (λq=>q.1==k)=[])\/∃h,d.po=some h/\d.ow h=-5/\h≠p.b/\IM w' h (d.l.eraseP λq=>q.1==k))->bi p {s with ps:=s.ps.eraseP λq=>q.1==k} {d with l:=d.l.eraseP λq=>q.1==k} w':=λw' c M=>by
  have i:∀b,d.ow b≠0->d.ow b=d.ow b:=λ_ _=>rfl;have y:∀b,d.ow b≠0->p.lo<=b/\b<w'.heap.size:=λb q=>⟨(a.low b q).1,aN (a.low b q).2 c.size⟩;have m:w'.heap[p.b]?=some (.cells (dP p s d) 70):=(c.block p.b a.lo.2 λn=>n.2 rfl).trans a.box;have t:∀{t:Int},t≠ -5->∀b,d.ow b=t->¬(d.ow b=-5/\b≠p.b):=λO b e n=>O (e.symm.trans n.1);obtain⟨y1,y2,T⟩:=a.wyK c (t (by decide)) i rfl (pV m).1;obtain⟨f,g⟩:=a.evK c (t (by decide)) i;refine⟨y,m,a.own,⟨a.pgK c (t (by decide)) i,a.pg.2⟩,M,⟨J,?_,λq N=>F q (List.mem_of_mem_eraseP N),G,H,?_⟩,λj b q=>?_,⟨y1,y2,a.wy.2.2.1,a.wy.2.2.2.1,T⟩,a.bdK c (t (by decide)) i rfl (pV m).2,f,a.evt.1,g⟩
  ·exact(u.sublist ((List.eraseP_sublist (l:=s.ps) (p:=λq=>q.1==k)).map _))
  ·exact ay (List.length_eraseP_le) I
  ·have x:j≠k:=λe=>by
     subst e;have:cQ (d.l.eraseP λq=>q.1==j) j=none:=by unfold cQ;rw[wa d.l L];rfl
     rw[this]at q;cases q
   have z:cQ d.l j=some b:=by
    unfold cQ at q ⊢;rw[nC x]at q;exact q
   obtain⟨P,B,A,r,D⟩:=a.psK c (ak _) (t (by have:=(a.key z).1;omega)) i y z;refine⟨P,B,A,?_,D⟩;unfold Sy.get at r ⊢;rw[nC x];exact r
 rcases a.pm with⟨f,g⟩|⟨h,f,g,o,C⟩
 ·refine⟨w,?_,v w (bq.refl _ _) (ah ⟨f,by rw[g];rfl⟩),bq.refl _ _⟩;have K:=Tryz.underlying62;intro ty;rw[f];simp[Builtin.delete_,co K,kG,Result.andThen]
 ·obtain⟨w',Q,R,S,_⟩:=vt.del C Tryz.underlying62 k;have c:bq (λq=>d.ow q=-5/\q≠p.b) w w':=S.mono λq _ e=>by rw[e];exact⟨g,o⟩
  exact⟨w',λty=>by rw[f];exact Q ty,v w' c (ai ⟨h,f,g,o,R⟩),c⟩
theorem Fh(a:Nat)(c:Option Nat)(x how:Int)(w w1:World)(R:World->Prop)(f:Hid (w.cell? ⟨a,3,none⟩=some (.map c)))(i:∀ty,(Builtin.delete_ #[62,3] ty #[.map c,ab x]).run Tryz.prog w=.ok (.tuple #[]) w1)(g:Hid (am 44 #[aF a,af ⟨#[101,110,100]⟩,ab x,ab how,.agg #[ab 0,ab 0,af ⟨#[]⟩,ae none 0 0]] w1 λe w'=>e=.returned (.tuple #[])/\R w')):am 73 #[aF a,ab x,ab how] w λe w'=>e=.returned (.tuple #[])/\R w':=by
 have h:=f.out;go_enter Tryz.func73,Tryz.ntmps73;go_wp2_with fail;refine g.out.mono ?_;rintro e j ⟨rfl,b⟩;have d:=ao b;clear b;go_wp2_with fail;exact dR (v:=.tuple #[]) (by simp[results]) rfl ⟨rfl,d.out⟩
theorem bi.drop(g:bi p s d w)(x how:Int)(k:d.es.length<=100000):am 73 #[aF p.b,ab x,ab how] w λe w'=>e=.returned (.tuple #[])/\Hid (∃c,bi p (s.drop x how) c w'/\dL 1 d c w w'):=by
 obtain⟨f,m,h,n⟩:=g.del x;refine Fh p.b d.po x how w f _ g.cells.2.2.2 m ((h.tell iq x how 0 0 ⟨#[]⟩ none 0 0 vp (Hy f) k).mono λe w' a=>⟨a.1,?_⟩);obtain⟨c,i,j⟩:=a.2.out.up h;have o:dL 0 d {d with l:=d.l.eraseP λa=>a.1==x} w f:=⟨n.mono λa _ e=>by rw[e.1];decide,λ_ _=>rfl,rfl,ak _,ak _,ak _⟩;exact⟨c,i,(o.trans j).mono (ak _)⟩
end
end Go.Proofs.YtckamaoibonjcaaGreat
