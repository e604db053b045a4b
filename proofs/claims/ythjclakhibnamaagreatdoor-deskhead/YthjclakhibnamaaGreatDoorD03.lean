/- What is proved here: the library contracts of strings.Join, Cut, Split, SplitN, Count, HasPrefix, TrimSuffix and strconv.Atoi, where they are called, laid at this program: the text that the laying tool prints, some theorems of it, with one record for the layings of one family. -/
import Derived.Test.YthjclakhibnamaaGreatDoorProg
import Derived.Shelf.Strings.OnBuilder
import Derived.Shelf.Strings.Split
import Derived.Shelf.Strings.Cut
import Derived.Shelf.Strings.Count
import Derived.Shelf.Strings.Prefix
import Derived.Shelf.Strconv.AtoiAll
namespace Go.Proofs
open Go.Shelf Go.Proofs.Tryz
def Tryz.renD:Go.Shelf.Ren:=⟨λ|146=>20|221=>27|268=>45|138=>8|143=>19|195=>17|197=>67|218=>18|219=>26|260=>99|217=>41|225=>42|224=>43|267=>44|266=>65|314=>66|147=>33|145=>31|220=>48|99=>7|206=>16|102=>21|209=>28|207=>46|156=>63|165=>96|166=>12|169=>15|240=>23|241=>136|276=>30|277=>165|n=>n,λ|9=>9|31=>23|3=>3|4=>4|0=>0|105=>112|21=>21|5=>5|46=>81|119=>214|139=>217|138=>216|146=>110|51=>109|59=>65|20=>20|72=>38|76=>41|70=>35|37=>36|75=>40|127=>61|164=>63|80=>44|n=>n,λ|1=>0|3=>2|4=>3|n=>n⟩
theorem Tryz.lays146:Go.Proofs.Lays.n146 Tryz.prog Tryz.renD:={
 mixed:=by kernel_rfl
 f138:=func8.trans (congrArg some (by kernel_rfl))
 f143:=func19.trans (congrArg some (by kernel_rfl))
 f146:=func20.trans (congrArg some (by kernel_rfl))
 f195:=func17.trans (congrArg some (by kernel_rfl))
 f197:=func67.trans (congrArg some (by kernel_rfl))
 f217:=func41.trans (congrArg some (by kernel_rfl))
 f218:=func18.trans (congrArg some (by kernel_rfl))
 f219:=func26.trans (congrArg some (by kernel_rfl))
 f221:=func27.trans (congrArg some (by kernel_rfl))
 f224:=func43.trans (congrArg some (by kernel_rfl))
 f225:=func42.trans (congrArg some (by kernel_rfl))
 f260:=func99.trans (congrArg some (by kernel_rfl))
 f266:=func65.trans (congrArg some (by kernel_rfl))
 f267:=func44.trans (congrArg some (by kernel_rfl))
 f268:=func45.trans (congrArg some (by kernel_rfl))
 f314:=func66.trans (congrArg some (by kernel_rfl))
 t0:=underlying0
 a0:=Tryz.isAgg0
 z0:=Tryz.sizeOf0
 v0:=Tryz.zeroValue0
 t3:=underlying3
 a3:=Tryz.isAgg3
 z3:=Tryz.sizeOf3
 v3:=Tryz.zeroValue3
 t4:=underlying4
 a4:=Tryz.isAgg4
 z4:=Tryz.sizeOf4
 v4:=Tryz.zeroValue4
 t5:=underlying5
 a5:=Tryz.isAgg5
 z5:=Tryz.sizeOf5
 v5:=Tryz.zeroValue5
 t9:=underlying9
 a9:=Tryz.isAgg9
 z9:=Tryz.sizeOf9
 v9:=Tryz.zeroValue9
 t21:=underlying21
 a21:=Tryz.isAgg21
 z21:=Tryz.sizeOf21
 v21:=Tryz.zeroValue21
 t31:=underlying23
 a31:=Tryz.isAgg23
 z31:=Tryz.sizeOf23
 v31:=Tryz.zeroValue23
 t46:=underlying81
 a46:=Tryz.isAgg81
 z46:=Tryz.sizeOf81
 v46:=Tryz.zeroValue81
 t51:=underlying109
 a51:=Tryz.isAgg109
 z51:=Tryz.sizeOf109
 v51:=Tryz.zeroValue109
 t105:=underlying112
 a105:=Tryz.isAgg112
 z105:=Tryz.sizeOf112
 v105:=Tryz.zeroValue112
 t119:=underlying214
 a119:=Tryz.isAgg214
 z119:=Tryz.sizeOf214
 t138:=underlying216
 a138:=Tryz.isAgg216
 z138:=Tryz.sizeOf216
 v138:=Tryz.zeroValue216
 t139:=underlying217
 a139:=Tryz.isAgg217
 z139:=Tryz.sizeOf217
 v139:=Tryz.zeroValue217
 t146:=underlying110
 a146:=Tryz.isAgg110
 z146:=Tryz.sizeOf110
 v146:=Tryz.zeroValue110
 g1:=by kernel_rfl
 g3:=by kernel_rfl
 g4:=by kernel_rfl}
theorem Tryz.lays147:Go.Proofs.Lays.n147 Tryz.prog Tryz.renD:={Tryz.lays146 with
 f147:=func33.trans (congrArg some (by kernel_rfl))}
theorem Tryz.lays145:Go.Proofs.Lays.n145 Tryz.prog Tryz.renD:={Tryz.lays146 with
 f145:=func31.trans (congrArg some (by kernel_rfl))
 f220:=func48.trans (congrArg some (by kernel_rfl))
 t59:=underlying65
 a59:=Tryz.isAgg65
 z59:=Tryz.sizeOf65
 v59:=Tryz.zeroValue65}
theorem Tryz.lays138:Go.Proofs.Lays.n138 Tryz.prog Tryz.renD:={Tryz.lays146 with
   }
theorem Tryz.lays99:Go.Proofs.Lays.n99 Tryz.prog Tryz.renD:={Tryz.lays146 with
 f99:=func7.trans (congrArg some (by kernel_rfl))
 f206:=func16.trans (congrArg some (by kernel_rfl))}
theorem Tryz.lays102:Go.Proofs.Lays.n102 Tryz.prog Tryz.renD:={Tryz.lays146 with
 f102:=func21.trans (congrArg some (by kernel_rfl))
 f207:=func46.trans (congrArg some (by kernel_rfl))
 f209:=func28.trans (congrArg some (by kernel_rfl))}
theorem Tryz.lays156:Go.Proofs.Lays.n156 Tryz.prog Tryz.renD:={Tryz.lays146 with
 f156:=func63.trans (congrArg some (by kernel_rfl))
 f165:=func96.trans (congrArg some (by kernel_rfl))
 f166:=func12.trans (congrArg some (by kernel_rfl))
 f169:=func15.trans (congrArg some (by kernel_rfl))
 f240:=func23.trans (congrArg some (by kernel_rfl))
 f241:=func136.trans (congrArg some (by kernel_rfl))
 f276:=func30.trans (congrArg some (by kernel_rfl))
 f277:=func165.trans (congrArg some (by kernel_rfl))
 t20:=underlying20
 a20:=Tryz.isAgg20
 z20:=Tryz.sizeOf20
 v20:=Tryz.zeroValue20
 t37:=underlying36
 a37:=Tryz.isAgg36
 z37:=Tryz.sizeOf36
 v37:=Tryz.zeroValue36
 t70:=underlying35
 a70:=Tryz.isAgg35
 z70:=Tryz.sizeOf35
 v70:=Tryz.zeroValue35
 t72:=underlying38
 a72:=Tryz.isAgg38
 z72:=Tryz.sizeOf38
 v72:=Tryz.zeroValue38
 t75:=underlying40
 a75:=Tryz.isAgg40
 z75:=Tryz.sizeOf40
 v75:=Tryz.zeroValue40
 t76:=underlying41
 a76:=Tryz.isAgg41
 z76:=Tryz.sizeOf41
 v76:=Tryz.zeroValue41
 t127:=underlying61
 a127:=Tryz.isAgg61
 z127:=Tryz.sizeOf61
 v127:=Tryz.zeroValue61
 t164:=underlying63
 a164:=Tryz.isAgg63
 z164:=Tryz.sizeOf63
 v164:=Tryz.zeroValue63}
theorem Tryz.Builder_Extra_156:Builder.Extra Tryz.prog Tryz.renD:={
 sizeBuilder:=by kernel_rfl
 liesBuilder:=by kernel_rfl
 t5:=underlying5
 a5:=Tryz.isAgg5
 z5:=Tryz.sizeOf5
 v5:=Tryz.zeroValue5
 infoByte:=by kernel_rfl
 cellsByte:=by kernel_rfl
 sizeByte:=by kernel_rfl
 neB5:=by decide}
open Go.RowKit in
theorem Tryz.strings_Join_none(b:Option Addr)(c:Nat)(d:ByteArray)(a:World):
    Calls Tryz.prog 63 #[.slice b 0 c,.string d] a λe f=>e=.returned (.string ⟨#[]⟩)/\f=a:=Any.strings_Join_none Tryz.lays156 Tryz.Builder_Extra_156 b c d a
open Go.RowKit in
theorem Tryz.strings_Join(c f e:Nat)(a:List ByteArray)(d:ByteArray)(b:World)(l:∀(g:Nat) x,a[g]?=some x->b.cell? ⟨c,f+g,none⟩=some (.string x))(j:c<b.heap.size)(i:a.length<=140737488355328)(k:a.length<=e)(m:(Lib.join (a.map (·.data.toList)) d.data.toList).length<=140737488355328):
    Calls Tryz.prog 63 #[.slice (some ⟨c,f,none⟩) a.length e,.string d] b λh n=>h=.returned (.string ⟨(Lib.join (a.map (·.data.toList)) d.data.toList).toArray⟩)/\Below b.heap.size b n:=Any.strings_Join Tryz.lays156 Tryz.Builder_Extra_156 c f e a d b l j i k m
open Go.RowKit Go.Lib in
theorem Tryz.strings_Cut(a b:ByteArray)(d:Int)(c:World)(g:a.size<4294967281)(f:c.cell? ⟨0,0,none⟩=some (.int .i64 d)):
    Calls Tryz.prog 31 #[.string a,.string b] c λe i=>e=.returned (.tuple #[.string ⟨(Lib.cut a.data.toList b.data.toList).1.toArray⟩,.string ⟨(Lib.cut a.data.toList b.data.toList).2.1.toArray⟩,.bool (Lib.cut a.data.toList b.data.toList).2.2])/\∃h,i=c.drewN h:=Any.strings_Cut Tryz.lays145 a b d c g f
open Go.RowKit Go.Lib in
theorem Tryz.strings_Split(a b:ByteArray)(d:Int)(c:World)(h:a.size<4294967281)(g:c.cell? ⟨0,0,none⟩=some (.int .i64 d))(f:1<=b.size):Calls Tryz.prog 20 #[.string a,.string b] c λe i=>
     e=.returned (.slice (some ⟨c.heap.size,0,none⟩) (Lib.countB a b+1) (Lib.countB a b+1))/\i=c.alloc (.cells ((Lib.splitB b 0 (Lib.countB a b) a).map Value.string).toArray 9):=Any.strings_Split Tryz.lays146 (by kernel_rfl) a b d c h g f
open Go.RowKit Go.Lib in
theorem Tryz.strings_SplitN(a c:ByteArray)(b:Nat)(e:Int)(d:World)(k:a.size<4294967281)(h:d.cell? ⟨0,0,none⟩=some (.int .i64 e))(g:1<=c.size)(i:1<=b)(j:b<=9223372036854775807):Calls Tryz.prog 33 #[.string a,.string c,.int .i64 b] d λf l=>
     f=.returned (.slice (some ⟨d.heap.size,0,none⟩) (Lib.splitB c 0 (min b (a.size+1)-1) a).length (min b (a.size+1)))/\l=d.alloc (.cells (Lib.cellsOf (Lib.splitB c 0 (min b (a.size+1)-1) a) (min b (a.size+1))) 9):=Any.strings_SplitN Tryz.lays147 (by kernel_rfl) a c b e d k h g i j
open Go.RowKit Go.Lib in
theorem Tryz.strings_Count_one(b:ByteArray)(a:UInt8)(c:World):
    Calls Tryz.prog 8 #[.string b,.string ⟨#[a]⟩] c λd e=>d=.returned (.int .i64 (Lib.countByte b.data.toList a))/\e=c:=Any.strings_Count_one Tryz.lays138 b a c
open Go.RowKit Go.Lib in
theorem Tryz.strings_HasPrefix(b a:ByteArray)(c:World):
    Calls Tryz.prog 7 #[.string b,.string a] c λd e=>d=.returned (.bool (Lib.hasPrefix b.data.toList a.data.toList))/\e=c:=Any.strings_HasPrefix Tryz.lays99 b a c
open Go.RowKit Go.Lib in
theorem Tryz.strings_TrimSuffix(a b:ByteArray)(c:World)(e:a.size<=9223372036854775807):
    Calls Tryz.prog 21 #[.string a,.string b] c λd f=>d=.returned (.string ⟨(Lib.trimSuffix a.data.toList b.data.toList).toArray⟩)/\f=c:=Any.strings_TrimSuffix Tryz.lays102 a b c e
def Tryz.laysC172_ren:Go.Shelf.Ren:=⟨λ|172=>49|244=>72|245=>73|247=>105|279=>106|280=>107|281=>108|282=>109|287=>142|316=>143|171=>22|205=>144|321=>169|322=>170|243=>29|246=>47|283=>68|284=>69|285=>70|286=>71|129=>101|317=>100|318=>102|319=>103|320=>104|337=>140|338=>141|n=>n,λ|9=>9|3=>3|75=>40|76=>41|4=>4|5=>5|167=>162|37=>36|0=>0|85=>163|2=>2|168=>165|53=>115|175=>219|46=>81|210=>222|127=>61|145=>263|143=>261|21=>21|171=>114|173=>118|212=>159|51=>109|20=>20|213=>160|232=>258|233=>259|80=>44|n=>n,λ|15=>4|16=>5|17=>1|18=>6|19=>7|n=>n⟩
theorem Tryz.laysC172:Go.Proofs.LaysC.n172 Tryz.prog Tryz.laysC172_ren:={
 mixed:=by kernel_rfl
 f129:=func101.trans (congrArg some (by kernel_rfl))
 f171:=func22.trans (congrArg some (by kernel_rfl))
 f172:=func49.trans (congrArg some (by kernel_rfl))
 f205:=func144.trans (congrArg some (by kernel_rfl))
 f243:=func29.trans (congrArg some (by kernel_rfl))
 f244:=func72.trans (congrArg some (by kernel_rfl))
 f245:=func73.trans (congrArg some (by kernel_rfl))
 f246:=func47.trans (congrArg some (by kernel_rfl))
 f247:=func105.trans (congrArg some (by kernel_rfl))
 f279:=func106.trans (congrArg some (by kernel_rfl))
 f280:=func107.trans (congrArg some (by kernel_rfl))
 f281:=func108.trans (congrArg some (by kernel_rfl))
 f282:=func109.trans (congrArg some (by kernel_rfl))
 f283:=func68.trans (congrArg some (by kernel_rfl))
 f284:=func69.trans (congrArg some (by kernel_rfl))
 f285:=func70.trans (congrArg some (by kernel_rfl))
 f286:=func71.trans (congrArg some (by kernel_rfl))
 f287:=func142.trans (congrArg some (by kernel_rfl))
 f316:=func143.trans (congrArg some (by kernel_rfl))
 f317:=func100.trans (congrArg some (by kernel_rfl))
 f318:=func102.trans (congrArg some (by kernel_rfl))
 f319:=func103.trans (congrArg some (by kernel_rfl))
 f320:=func104.trans (congrArg some (by kernel_rfl))
 f321:=func169.trans (congrArg some (by kernel_rfl))
 f322:=func170.trans (congrArg some (by kernel_rfl))
 f337:=func140.trans (congrArg some (by kernel_rfl))
 f338:=func141.trans (congrArg some (by kernel_rfl))
 t0:=underlying0
 a0:=Tryz.isAgg0
 z0:=Tryz.sizeOf0
 v0:=Tryz.zeroValue0
 t2:=underlying2
 a2:=Tryz.isAgg2
 z2:=Tryz.sizeOf2
 v2:=Tryz.zeroValue2
 t3:=underlying3
 a3:=Tryz.isAgg3
 z3:=Tryz.sizeOf3
 v3:=Tryz.zeroValue3
 t4:=underlying4
 a4:=Tryz.isAgg4
 z4:=Tryz.sizeOf4
 v4:=Tryz.zeroValue4
 t5:=underlying5
 a5:=Tryz.isAgg5
 z5:=Tryz.sizeOf5
 v5:=Tryz.zeroValue5
 t9:=underlying9
 a9:=Tryz.isAgg9
 z9:=Tryz.sizeOf9
 v9:=Tryz.zeroValue9
 t20:=underlying20
 a20:=Tryz.isAgg20
 z20:=Tryz.sizeOf20
 v20:=Tryz.zeroValue20
 t21:=underlying21
 a21:=Tryz.isAgg21
 z21:=Tryz.sizeOf21
 v21:=Tryz.zeroValue21
 t37:=underlying36
 a37:=Tryz.isAgg36
 z37:=Tryz.sizeOf36
 v37:=Tryz.zeroValue36
 t46:=underlying81
 a46:=Tryz.isAgg81
 z46:=Tryz.sizeOf81
 v46:=Tryz.zeroValue81
 t51:=underlying109
 a51:=Tryz.isAgg109
 z51:=Tryz.sizeOf109
 v51:=Tryz.zeroValue109
 t53:=underlying115
 a53:=Tryz.isAgg115
 z53:=Tryz.sizeOf115
 v53:=Tryz.zeroValue115
 t75:=underlying40
 a75:=Tryz.isAgg40
 z75:=Tryz.sizeOf40
 v75:=Tryz.zeroValue40
 t76:=underlying41
 a76:=Tryz.isAgg41
 z76:=Tryz.sizeOf41
 v76:=Tryz.zeroValue41
 t85:=underlying163
 a85:=Tryz.isAgg163
 z85:=Tryz.sizeOf163
 v85:=Tryz.zeroValue163
 t127:=underlying61
 a127:=Tryz.isAgg61
 z127:=Tryz.sizeOf61
 v127:=Tryz.zeroValue61
 t143:=underlying261
 a143:=Tryz.isAgg261
 z143:=Tryz.sizeOf261
 v143:=Tryz.zeroValue261
 t145:=underlying263
 a145:=Tryz.isAgg263
 z145:=Tryz.sizeOf263
 v145:=Tryz.zeroValue263
 t167:=underlying162
 a167:=Tryz.isAgg162
 z167:=Tryz.sizeOf162
 v167:=Tryz.zeroValue162
 t168:=underlying165
 a168:=Tryz.isAgg165
 z168:=Tryz.sizeOf165
 v168:=Tryz.zeroValue165
 t171:=underlying114
 a171:=Tryz.isAgg114
 z171:=Tryz.sizeOf114
 v171:=Tryz.zeroValue114
 t173:=underlying118
 a173:=Tryz.isAgg118
 z173:=Tryz.sizeOf118
 v173:=Tryz.zeroValue118
 t175:=underlying219
 a175:=Tryz.isAgg219
 z175:=Tryz.sizeOf219
 v175:=Tryz.zeroValue219
 t210:=underlying222
 a210:=Tryz.isAgg222
 z210:=Tryz.sizeOf222
 v210:=Tryz.zeroValue222
 t212:=underlying159
 a212:=Tryz.isAgg159
 z212:=Tryz.sizeOf159
 v212:=Tryz.zeroValue159
 t213:=underlying160
 a213:=Tryz.isAgg160
 z213:=Tryz.sizeOf160
 t232:=underlying258
 a232:=Tryz.isAgg258
 z232:=Tryz.sizeOf258
 v232:=Tryz.zeroValue258
 t233:=underlying259
 a233:=Tryz.isAgg259
 z233:=Tryz.sizeOf259
 v233:=Tryz.zeroValue259
 g15:=by kernel_rfl
 g16:=by kernel_rfl
 g17:=by kernel_rfl
 g18:=by kernel_rfl
 g19:=by kernel_rfl
 t80:=underlying44
 a80:=Tryz.isAgg44
 z80:=Tryz.sizeOf44
 v80:=Tryz.zeroValue44
 i0:=by kernel_rfl
 i2:=by kernel_rfl
 i3:=by kernel_rfl
 i4:=by kernel_rfl
 i5:=by kernel_rfl
 i9:=by kernel_rfl
 i20:=by kernel_rfl
 i21:=by kernel_rfl
 i37:=by kernel_rfl
 i46:=by kernel_rfl
 i51:=by kernel_rfl
 i53:=by kernel_rfl
 i75:=by kernel_rfl
 i76:=by kernel_rfl
 i80:=by kernel_rfl
 i85:=by kernel_rfl
 i127:=by kernel_rfl
 i143:=by kernel_rfl
 i145:=by kernel_rfl
 i167:=by kernel_rfl
 i168:=by kernel_rfl
 i171:=by kernel_rfl
 i173:=by kernel_rfl
 i175:=by kernel_rfl
 i210:=by kernel_rfl
 i212:=by kernel_rfl
 i232:=by kernel_rfl
 i233:=by kernel_rfl
 m15:=by kernel_rfl
 m16:=by kernel_rfl
 m17:=by kernel_rfl
 m18:=by kernel_rfl
 m19:=by kernel_rfl
 c0:=by kernel_rfl
 c2:=by kernel_rfl
 c3:=by kernel_rfl
 c4:=by kernel_rfl
 c5:=by kernel_rfl
 c9:=by kernel_rfl
 c20:=by kernel_rfl
 c21:=by kernel_rfl
 c37:=by kernel_rfl
 c46:=by kernel_rfl
 c51:=by kernel_rfl
 c53:=by kernel_rfl
 c75:=by kernel_rfl
 c76:=by kernel_rfl
 c80:=by kernel_rfl
 c85:=by kernel_rfl
 c127:=by kernel_rfl
 c143:=by kernel_rfl
 c145:=by kernel_rfl
 c167:=by kernel_rfl
 c168:=by kernel_rfl
 c171:=by kernel_rfl
 c173:=by kernel_rfl
 c175:=by kernel_rfl
 c210:=by kernel_rfl
 c212:=by kernel_rfl
 c213:=by kernel_rfl
 c232:=by kernel_rfl
 c233:=by kernel_rfl}
open Go.RowKit in
theorem Tryz.strconv_Atoi_ok(a:ByteArray)(g:a.size<=9223372036854775806)(c:Int)(f:Lib.atoiAll a.data.toList=.ok c)(b:World):
    Calls Tryz.prog 49 #[.string a] b λe d=>e=.returned (.tuple #[.int .i64 c,.nilIface])/\(d=b\/∃h,d=Lib.bytesWorld b 5 h):=Any.strconv_Atoi_ok Tryz.laysC172 a g c f b
open Go.RowKit in
theorem Tryz.strconv_Atoi_syntax(c:ByteArray)(i:c.size<=281474976710656)(g:Lib.atoiAll c.data.toList=.«syntax»)(b:Value)(a:World)(j:a.cell? ⟨4,0,none⟩=some b)(h:b=.nilIface\/∃l k,b=.iface l k):
    Calls Tryz.prog 49 #[.string c] a λf e=>∃d,f=.returned (.tuple #[.int .i64 (0),.iface 165 (.pointer (some ⟨d,0,none⟩))])/\a.heap.size<=d/\e.heap[d]?=some (.cells #[.string ⟨#[65,116,111,105]⟩,.string c,b] 222 (0,0))/\Below a.heap.size a e:=Any.strconv_Atoi_syntax Tryz.laysC172 c i g b a j h
open Go.RowKit in
theorem Tryz.strconv_Atoi_range(a:ByteArray)(i:a.size<=281474976710656)(g:Lib.atoiAll a.data.toList=.range)(c:Value)(b:World)(j:b.cell? ⟨5,0,none⟩=some c)(h:c=.nilIface\/∃l k,c=.iface l k):
    Calls Tryz.prog 49 #[.string a] b λf e=>∃d,f=.returned (.tuple #[.int .i64 (Lib.atoiSat a.data.toList),.iface 165 (.pointer (some ⟨d,0,none⟩))])/\b.heap.size<=d/\e.heap[d]?=some (.cells #[.string ⟨#[65,116,111,105]⟩,.string a,c] 222 (0,0))/\Below b.heap.size b e:=Any.strconv_Atoi_range Tryz.laysC172 a i g c b j h
end Go.Proofs
